import Derived.Test.YtpfkkmacakjmbaaGreatDoorP00
import Derived.Lib.ItoaNum
import Derived.IntWalk
set_option maxRecDepth 100000
set_option maxHeartbeats 6400000
set_option linter.unusedSimpArgs false
set_option linter.unusedVariables false
namespace Go.Proofs.YtpfkkmacakjmbaaGreatDoor
section
open Go Go.RowKit Sp
attribute [local go_sem ↓] Go.wp_at_zero Go.wp_at_succ
theorem eQ (e:Int) (w:World):
  Calls Tryz.prog 21 #[.int .i64 e] w fun en w'=>en= .returned (.int .i64 e)∧w'=w:=by
 go_in
 go_wp2_with fail
 all_goals go_ret
 all_goals exact⟨rfl,rfl⟩
end
namespace Sp
def bq (cs:List Cls):Nat→Int→Int→Bool
 |0,_,_=>false
 |f+1,x,y=>if x<0 then false else if x=y then true else bq cs f (bV cs x) y
def isC (c:UInt8):Bool:=decide (65≤c.toNat)&&decide (c.toNat≤68)
def bv (cs:List Cls) (a b:UInt8):Bool:=
 if a.toNat=b.toNat∨b.toNat=45 then true else
 if isC b=false then false else
 if a.toNat=122 then true else
 if isC a=false then false else bq cs 5 ((a.toNat:Int)-65) ((b.toNat:Int)-65)
def jC (cs:List Cls) (y:Int):Nat→Int→UInt8
 |0,_=>45
 |f+1,p=>if p<0 then 45 else if bq cs 5 y p=true then UInt8.ofNat (65+p.toNat)else jC cs y f (bV cs p)
def gO (cs:List Cls) (a b:UInt8):UInt8:=
 if bv cs a b=true then b else
 if bv cs b a=true then a else
 if isC a=false∨isC b=false then 45 else
 jC cs ((b.toNat:Int)-65) 5 (bV cs ((a.toNat:Int)-65))
def okT (n:Nat) (c:UInt8):Bool:=ce n c||decide (c.toNat=122)||decide (c.toNat=45)
theorem cR {n:Nat} {c:UInt8}:okT n c=true↔c.toNat=105∨(65≤c.toNat∧c.toNat<65+n)∨c.toNat=122∨c.toNat=45:=by
 simp[okT,ce,aI,or_assoc]
theorem bB {c:UInt8}:isC c=true↔65≤c.toNat∧c.toNat≤68:=by simp[isC]
def isR (c:UInt8):Bool:=decide (c.toNat=122)||isC c
def cr (cs:List Cls) (stack want:List UInt8):Bool:=
 decide (want.length≤stack.length)&&(List.range want.length).all fun i=>bv cs (stack.getD (stack.length-want.length+i) 0) (want.getD i 0)
def bT (cs:List Cls) (a k:Nat):UInt8:=((cs[a]?.map (·.fields)).getD []).getD k 0
def b8 (a:Nat):UInt8:=UInt8.ofNat (65+a)
def fW (gs:List Sig) (k:Nat):UInt8:=(gs[k]?.map (·.arg)).getD 0
def dR (gs:List Sig) (k:Nat):UInt8:=(gs[k]?.map (·.ret)).getD 0
def arith (c:Nat):Bool:=[43,45,42,47,60,61].contains c
def bA (cs:List Cls) (gs:List Sig) (b:Bod) (x:Ins):List UInt8:=
 if x.op.toNat=119∨x.op.toNat=102 then [105]else
 if arith x.op.toNat=true then [105,105]else
 if x.op.toNat=103 then [b8 x.a]else
 if x.op.toNat=112 then [b8 x.a,bT cs x.a x.b]else
 if x.op.toNat=99 then [b8 x.a,fW gs x.b]else
 if x.op.toNat=116 then(if b.cls<0 then [105]else [dR gs b.meth.toNat])else []
def bC (cs:List Cls) (gs:List Sig) (x:Ins):List UInt8:=
 if x.op.toNat=107∨x.op.toNat=114∨arith x.op.toNat=true∨x.op.toNat=101 then [105]else
 if x.op.toNat=122 then [122]else
 if x.op.toNat=110∨x.op.toNat=120 then [b8 x.a]else
 if x.op.toNat=103 then [bT cs x.a x.b]else
 if x.op.toNat=99 then [dR gs x.b]else []
def cP (c:Nat) (stack:List UInt8):Option Nat:=
 if c=101 then
  if stack.length<2∨isR (stack.getD (stack.length-1) 0)=false∨isR (stack.getD (stack.length-2) 0)=false then none else some 2
 else if stack.length<1∨(c=120∧isR (stack.getD (stack.length-1) 0)=false)then none else some 1
def df (cs:List Cls) (gs:List Sig) (b:Bod) (x:Ins) (stack locals:List UInt8):Option (List UInt8×List UInt8):=
 if x.op.toNat=115∨x.op.toNat=100∨x.op.toNat=101∨x.op.toNat=120 then
  match cP x.op.toNat stack with
  |none=>none
  |some k=>some (stack.take (stack.length-k)++bC cs gs x,if x.op.toNat=115 then locals.set x.b (stack.getD (stack.length-1) 0)else locals)
 else if x.op.toNat=108 then
  if(locals.getD x.b 0).toNat=45 then none else some (stack++ [locals.getD x.b 0],locals)
 else if cr cs stack (bA cs gs b x)=true then some (stack.take (stack.length-(bA cs gs b x).length)++bC cs gs x,locals)
 else none
def cS (cs:List Cls) (a b:List UInt8):List UInt8:=List.zipWith (gO cs) a b
theorem qs {cs:List Cls} {st wa:List UInt8} (h:st.length<wa.length):cr cs st wa=false:=by
 unfold cr;rw[Bool.and_eq_false_iff]
 left;simp;omega
theorem wI {cs:List Cls} {st wa:List UInt8} {k:Nat} (hk:k<wa.length) (h:bv cs (st.getD (st.length-wa.length+k) 0) (wa.getD k 0)=false):cr cs st wa=false:=by
 unfold cr;rw[Bool.and_eq_false_iff]
 right
 rw[List.all_eq_false];exact⟨k,by simpa using hk,by rw[h];decide⟩
theorem oe {cs:List Cls} {st wa:List UInt8} (hl:wa.length≤st.length) (h: ∀k,k<wa.length→bv cs (st.getD (st.length-wa.length+k) 0) (wa.getD k 0)=true):cr cs st wa=true:=by
 unfold cr;rw[Bool.and_eq_true];refine⟨by simpa using hl,?_⟩;rw[List.all_eq_true];intro k hk;exact h k (by simpa using hk)
theorem og {cs:List Cls} {a b:List UInt8} (h:a.length=b.length):(cS cs a b).length=a.length:=by
 simp[cS,h]
def eg (x:Ins) (i:Nat):Int×Int:=
 if x.op.toNat=116 then(-1,-1)else
 if x.op.toNat=106 then((x.b:Int),-1)else
 if x.op.toNat=102 then((i:Int)+1,(x.b:Int))else((i:Int)+1,-1)
def fd (cs:List Cls) (a:Option (List UInt8×List UInt8)) (sb lb:List UInt8):Option (List UInt8×List UInt8):=match a with
 |none=>some (sb,lb)
 |some (sa,la)=>if sa.length=sb.length then some (cS cs sa sb,cS cs la lb)else none
def okS (n nl:Nat) (s l:List UInt8):Prop:=(∀c∈s,okT n c=true)∧(∀c∈l,okT n c=true)∧l.length=nl∧s.length≤100
def bJ (cs:List Cls) (T:List (Option (List UInt8×List UInt8))×Bool×Bool) (j:Int) (sb lb:List UInt8):List (Option (List UInt8×List UInt8))×Bool×Bool:=
 if T.2.2=true∨j<0 then T else
 if(T.1.length:Int)≤j then(T.1,T.2.1,true)else
 match fd cs (T.1.getD j.toNat none) sb lb with
 |none=>(T.1,T.2.1,true)
 |some m=>if some m=T.1.getD j.toNat none then T else(T.1.set j.toNat (some m),true,false)
theorem f9 {cs:List Cls} (hw:WfC cs) {x:Int} (hx:x<cs.length) (h0:0≤x): -1≤bV cs x∧bV cs x<cs.length:=by
 unfold bV;obtain⟨n,rfl⟩:=Int.eq_ofNat_of_zero_le h0;have hn:n<cs.length:=by omega
 rw[Int.toNat_natCast,List.getElem?_eq_getElem hn];have:=hw n _ (List.getElem?_eq_getElem hn);simp;omega
theorem qt {cs:List Cls} {y:Int} (hn:cs.length≤4) (hw:WfC cs): ∀{f:Nat} {p:Int},-1≤p→p<cs.length→okT cs.length (jC cs y f p)=true:=by
 intro f
 induction f with
 |zero=>intro p _ _;simp[jC,okT]
 |succ f ih=>
  intro p h1 h2;unfold jC
  split
  ·simp[okT]
  ·split
   ·rw[cR]
    right;left
    rw[UInt8.toNat_ofNat'];omega
   ·have:=f9 hw h2 (by omega);exact ih this.1 this.2
theorem qu {cs:List Cls} {a b:UInt8} (hn:cs.length≤4) (hw:WfC cs) (ha:okT cs.length a=true) (hb:okT cs.length b=true):okT cs.length (gO cs a b)=true:=by
 unfold gO
 split
 ·exact hb
 ·split
  ·exact ha
  ·split
   ·simp[okT]
   ·rename_i h
    have a1:=cR.1 ha
    have a0:isC a=true:=by cases h':isC a with
     |true=>rfl
     |false=>exact absurd (Or.inl h') h
    have:=bB.1 a0;have hr:=f9 hw (x:=(a.toNat:Int)-65) (by omega) (by omega);exact qt hn hw hr.1 hr.2
theorem jm (cs:List Cls) (gs:List Sig) (x:Ins):(bC cs gs x).length≤1:=by
 unfold bC
 repeat' split
 all_goals simp
end Sp
section
open Go Sp
abbrev St:=Option (List UInt8×List UInt8)
abbrev Tn:=List St×Bool×Bool
def eB (im:Img) (bd:Bod) (T:Tn) (i:Nat):Option Tn:=
 match bd.code[i]?,T.1.getD i none with
 |some x,some (s,l)=>
  match df im.classes im.sigs bd x s l with
  |none=>none
  |some (s',l')=>some (bJ im.classes (bJ im.classes T (eg x i).1 s' l') (eg x i).2 s' l')
 |_,_=>some T
def dw (im:Img) (bd:Bod):Nat→Nat→Tn→Option Tn
 |0,_,T=>some T
 |f+1,i,T=>if T.2.2=true then some T else
  match eB im bd T i with
  |none=>none
  |some T'=>dw im bd f (i+1) T'
def dX (im:Img) (bd:Bod):Nat→Tn→Option (List St)
 |0,T=>some T.1
 |f+1,T=>if T.2.1=false then some T.1 else
  match dw im bd bd.code.length 0 (T.1,false,T.2.2)with
  |none=>none
  |some T'=>if T'.2.2=true then none else dX im bd f T'
def b9 (bd:Bod):List St:=(List.replicate bd.code.length none).set 0 (some ([],bd.locals))
def cZ (im:Img) (bd:Bod):Option (List St):=dX im bd 80000 (b9 bd,true,false)
def ig (tb:List St):Nat:=tb.countP Option.isSome
def okZ (nc nl:Nat) (s l:List UInt8):Prop:=(∀c∈s,okT nc c=true)∧(∀c∈l,okT nc c=true)∧l.length=nl
def wfT (nc nl n:Nat) (tb:List St):Prop:=tb.length=n∧ ∀(k:Nat) s l,tb[k]?=some (some (s,l))→okZ nc nl s l∧s.length<ig tb
theorem o7 (tb:List St):ig tb≤tb.length:=List.countP_le_length
theorem wfT.okS {nc nl n:Nat} {tb:List St} (h:wfT nc nl n tb) (hn:n≤100) (k:Nat) (s l:List UInt8) (hk:tb[k]?=some (some (s,l))):okS nc nl s l:=by
 obtain⟨⟨a,b,c⟩,d⟩:=h.2 k s l hk;have:=o7 tb;have:=h.1;exact⟨a,b,c,by omega⟩
theorem qv {tb:List St} {j:Nat} {m:List UInt8×List UInt8} (hj:j<tb.length):ig (tb.set j (some m))=ig tb+(if(tb[j]'hj).isSome then 0 else 1):=by
 unfold ig;rw[List.countP_set hj];have:tb[j].isSome=true→0<tb.countP Option.isSome:=fun h=>List.countP_pos_iff.2 ⟨_,List.getElem_mem hj,h⟩
 by_cases h:tb[j].isSome=true
 ·have:=this h;simp[h];omega
 ·simp[h]
theorem oh {cs:List Cls} (hn:cs.length≤4) (hw:WfC cs): ∀{a b:List UInt8},(∀c∈a,okT cs.length c=true)→(∀c∈b,okT cs.length c=true)→ ∀c∈cS cs a b,okT cs.length c=true:=by
 intro a
 induction a with
 |nil=>intro b _ _ c hc;simp[cS]at hc
 |cons x a ih=>
  intro b ha hb c hc
  cases b with
  |nil=>simp[cS]at hc
  |cons y b=>
   simp only[cS,List.zipWith_cons_cons,List.mem_cons]at hc;rcases hc with rfl|hc
   ·exact qu hn hw (ha _ (by simp)) (hb _ (by simp))
   ·exact ih (fun c h=>ha c (by simp[h])) (fun c h=>hb c (by simp[h])) c hc
theorem gP {cs:List Cls} {nl n:Nat} (hn:cs.length≤4) (hw:WfC cs) {T:Tn} {j:Int} {sb lb:List UInt8} (h:wfT cs.length nl n T.1) (hz:okZ cs.length nl sb lb) (hl:sb.length≤ig T.1):
  wfT cs.length nl n (bJ cs T j sb lb).1∧ig T.1≤ig (bJ cs T j sb lb).1:=by
 unfold bJ
 split
 ·exact⟨h,Nat.le_refl _⟩
 split
 ·exact⟨h,Nat.le_refl _⟩
 rename_i h1 h2
 have a0:j.toNat<T.1.length:=by omega
 split
 ·exact⟨h,Nat.le_refl _⟩
 rename_i m hm
 split
 ·exact⟨h,Nat.le_refl _⟩
 have hs:=qv (m:=m) a0;simp only;refine⟨⟨by rw[List.length_set];exact h.1,?_⟩,by omega⟩;intro k s l hk;rw[List.getElem?_set]at hk
 split at hk
 ·rename_i hjk
  subst hjk
  try rw[if_pos a0]at hk
  injection hk with hk;injection hk with hk;subst hk;have a1:T.1.getD j.toNat none=T.1[j.toNat]:=by simp[List.getD,a0]
  rw[a1]at hm
  cases ho:T.1[j.toNat]with
  |none=>
   rw[ho]at hm hs;simp[fd]at hm;obtain⟨rfl,rfl⟩:=hm;simp at hs;exact⟨hz,by omega⟩
  |some p=>
   obtain⟨sa,la⟩:=p;rw[ho]at hm hs;simp only[fd]at hm
   split at hm
   ·rename_i hlen
    injection hm with hm;injection hm with h3 h4;subst h3 h4;have ha:=h.2 j.toNat sa la (by rw[List.getElem?_eq_getElem a0,ho]);simp at hs;refine⟨⟨oh hn hw ha.1.1 hz.1,oh hn hw ha.1.2.1 hz.2.1,?_⟩,?_⟩
    ·rw[og (by rw[ha.1.2.2,hz.2.2])];exact ha.1.2.2
    ·rw[og hlen];omega
   ·cases hm
 ·have:=h.2 k s l hk;exact⟨this.1,by omega⟩
theorem jn (cs:List Cls) (T:Tn) (j:Int) (sb lb:List UInt8):(bJ cs T j sb lb).1.length=T.1.length:=by
 unfold bJ
 split
 ·rfl
 split
 ·rfl
 split
 ·rfl
 split
 ·rfl
 ·simp
theorem gd {n:Nat} {c:UInt8} (h:ce n c=true):okT n c=true:=by simp[okT,h]
theorem qw {im:Img} (hW:WfI im) {x:Ins} {nl:Nat} (hx:WfX im.classes im.sigs.length nl x): ∀c∈bC im.classes im.sigs x,okT im.classes.length c=true:=by
 intro c hc
 have a0: ∀a,a<im.classes.length→okT im.classes.length (b8 a)=true:=by
  intro a ha;have:=hW.nc;rw[cR]
  right;left
  have h1:(b8 a).toNat=65+a:=by simp[b8];omega
  omega
 unfold bC at hc
 split at hc
 ·simp at hc;subst hc;simp[cR]
 split at hc
 ·simp at hc;subst hc;simp[cR]
 split at hc
 ·rename_i h
  simp at hc;subst hc;exact a0 _ (hx.cls (by omega))
 split at hc
 ·rename_i h
  simp at hc;subst hc;have h1:=hx.cls (by omega);have h2:=hx.fld (by omega);obtain⟨cl,a0⟩: ∃cl,im.classes[x.a]?=some cl:=⟨_,List.getElem?_eq_getElem h1⟩;unfold bT;rw[a0];simp only[bU,a0]at h2;simp only[Option.map_some,Option.getD_some]at h2⊢;have hf:=hW.cls x.a cl a0
  have hm:cl.fields.getD x.b 0∈cl.fields:=by
   have:cl.fields.getD x.b 0=cl.fields[x.b]'(by simpa using h2):=by simp[List.getD,h2]
   rw[this];exact List.getElem_mem _
  exact gd (eH (by omega) (hf.2.2.2 _ hm))
 split at hc
 ·rename_i h
  simp at hc;subst hc;have h2:=hx.sig h;obtain⟨g,hg⟩: ∃g,im.sigs[x.b]?=some g:=⟨_,List.getElem?_eq_getElem h2⟩;unfold dR;rw[hg];simp only[Option.map_some,Option.getD_some];exact gd (hW.sig g (List.mem_of_getElem? hg)).2
 ·simp at hc
theorem ki {n:Nat} {l:List UInt8} (h: ∀c∈l,okT n c=true) {k:Nat} (hk:k<l.length):okT n (l.getD k 0)=true:=by
 have:l.getD k 0=l[k]:=by simp[List.getD,hk]
 rw[this];exact h _ (List.getElem_mem _)
theorem jo {im:Img} (hW:WfI im) {bd:Bod} {x:Ins} (hx:WfX im.classes im.sigs.length bd.locals.length x) {s l s' l':List UInt8} (hz:okZ im.classes.length bd.locals.length s l) (h:df im.classes im.sigs bd x s l=some (s',l')):
  okZ im.classes.length bd.locals.length s' l'∧s'.length≤s.length+1:=by
 have hp:=qw hW hx;have a0:=jm im.classes im.sigs x
 have key: ∀k,(∀c∈s.take k++bC im.classes im.sigs x,okT im.classes.length c=true)∧(s.take k++bC im.classes im.sigs x).length≤s.length+1:=by
  intro k
  constructor
  ·intro c hc;rw[List.mem_append]at hc;rcases hc with hc|hc
   ·exact hz.1 c (List.mem_of_mem_take hc)
   ·exact hp c hc
  ·simp;omega
 unfold df at h
 split at h
 ·split at h
  ·cases h
  ·rename_i k hk
   injection h with h;injection h with h1 h2;subst h1;refine⟨⟨(key _).1,?_,?_⟩,(key _).2⟩
   ·intro c hc;rw[←h2]at hc
    split at hc
    ·rename_i h115
     have:=List.mem_or_eq_of_mem_set hc;rcases this with h|h
     ·exact hz.2.1 c h
     ·rw[h]
      apply ki hz.1
      rw[h115]at hk;unfold cP at hk;simp at hk;have:=List.length_pos_iff.2 hk.1;omega
    ·exact hz.2.1 c hc
   ·rw[←h2]
    split
    ·rw[List.length_set];exact hz.2.2
    ·exact hz.2.2
 split at h
 ·split at h
  ·cases h
  ·rename_i h108 _
   injection h with h;injection h with h1 h2;subst h1 h2;refine⟨⟨?_,hz.2⟩,by simp⟩;intro c hc;rw[List.mem_append]at hc;rcases hc with hc|hc
   ·exact hz.1 c hc
   ·simp at hc;subst hc;have:=ki hz.2.1 (k:=x.b) (by rw[hz.2.2];exact hx.loc (Or.inl h108));simpa[List.getD]using this
 split at h
 ·injection h with h;injection h with h1 h2;subst h1 h2;exact⟨⟨(key _).1,hz.2⟩,(key _).2⟩
 ·cases h
theorem qx {im:Img} (hW:WfI im) {bd:Bod} (hb:WfB im.classes im.sigs bd) {n:Nat} {T T':Tn} {i:Nat} (h:wfT im.classes.length bd.locals.length n T.1) (hs:eB im bd T i=some T'):
  wfT im.classes.length bd.locals.length n T'.1:=by
 unfold eB at hs
 split at hs
 ·rename_i x s l hx hst
  split at hs
  ·cases hs
  ·rename_i s' l' he
   injection hs with hs;subst hs
   have hg:T.1[i]?=some (some (s,l)):=by
    simp only[List.getD]at hst
    cases hh:T.1[i]? with
    |none=>rw[hh]at hst;cases hst
    |some o=>rw[hh]at hst;simp at hst;rw[hst]
   have hz:=h.2 i s l hg;have a0:=jo hW (hb.code x (List.mem_of_getElem? hx)) hz.1 he;have h1:=gP hW.nc hW.cls (j:=(eg x i).1) h a0.1 (by omega);exact(gP hW.nc hW.cls (j:=(eg x i).2) h1.1 a0.1 (by omega)).1
 ·injection hs with hs;subst hs;exact h
theorem eU {im:Img} {bd:Bod} (hb:WfB im.classes im.sigs bd):wfT im.classes.length bd.locals.length bd.code.length (b9 bd):=by
 unfold b9;refine⟨by simp,?_⟩;intro k s l hk;have h0:0<(List.replicate bd.code.length (none:St)).length:=by simpa using hb.len.1
 have hs:=qv (m:=([],bd.locals)) h0;rw[List.getElem?_set]at hk
 split at hk
 ·rename_i hk0
  subst hk0
  try rw[if_pos h0]at hk
  injection hk with hk;injection hk with hk;injection hk with h1 h2;subst h1 h2;refine⟨⟨by simp,fun c hc=>gd (hb.loc.2 c hc),rfl⟩,?_⟩;rw[hs];simp
 ·rw[List.getElem?_replicate]at hk
  split at hk<;>simp at hk
def jN (im:Img) (bd:Bod) (f:Nat):Option Tn→Option (List St)
 |none=>none
 |some T'=>if T'.2.2=true then none else dX im bd f T'
theorem ml (im:Img) (bd:Bod) (f:Nat) (tb:List St):dX im bd (f+1) (tb,true,false)=jN im bd f (dw im bd bd.code.length 0 (tb,false,false)):=by
 unfold dX;rw[if_neg (by simp)];simp only
 cases dw im bd bd.code.length 0 (tb,false,false)<;>rfl
theorem ii (im:Img) (bd:Bod) (f:Nat) (tb:List St) (b:Bool):dX im bd f (tb,false,b)=some tb:=by
 cases f<;>simp[dX]
theorem mo (im:Img) (bd:Bod) (f i:Nat) (T:Tn) (h:T.2.2=true):dw im bd f i T=some T:=by
 cases f
 ·rfl
 ·simp only[dw,if_pos h]
theorem qy {im:Img} {bd:Bod} {f i:Nat} {T:Tn} (h:T.2.2=false) (hs:eB im bd T i=none):dw im bd (f+1) i T=none:=by
 simp[dw,h,hs]
theorem ln {im:Img} {bd:Bod} {f i:Nat} {T T':Tn} (h:T.2.2=false) (hs:eB im bd T i=some T'):dw im bd (f+1) i T=dw im bd f (i+1) T':=by
 simp[dw,h,hs]
theorem sy {im:Img} {bd:Bod} {T:Tn} {i:Nat} {x:Ins} {s l:List UInt8} (hx:bd.code[i]?=some x) (h:T.1[i]?=some (some (s,l))) (he:df im.classes im.sigs bd x s l=none):eB im bd T i=none:=by
 unfold eB;rw[List.getD_eq_getElem?_getD,h,hx];simp[he]
theorem mp {im:Img} {bd:Bod} {T:Tn} {i:Nat} {x:Ins} {s l s' l':List UInt8} (hx:bd.code[i]?=some x) (h:T.1[i]?=some (some (s,l))) (he:df im.classes im.sigs bd x s l=some (s',l')):
  eB im bd T i=some (bJ im.classes (bJ im.classes T (eg x i).1 s' l') (eg x i).2 s' l'):=by
 unfold eB;rw[List.getD_eq_getElem?_getD,h,hx];simp[he]
theorem om {im:Img} (hW:WfI im) {bd:Bod} (hb:WfB im.classes im.sigs bd) {n:Nat}: ∀{f i:Nat} {T T':Tn},wfT im.classes.length bd.locals.length n T.1→dw im bd f i T=some T'→wfT im.classes.length bd.locals.length n T'.1:=by
 intro f
 induction f with
 |zero=>intro i T T' h hs;simp[dw]at hs;subst hs;exact h
 |succ f ih=>
  intro i T T' h hs;simp only[dw]at hs
  split at hs
  ·injection hs with hs;subst hs;exact h
  ·split at hs
   ·cases hs
   ·rename_i T1 h1
    exact ih (qx hW hb h h1) hs
theorem sA {im:Img} (hW:WfI im) {bd:Bod} (hb:WfB im.classes im.sigs bd) {n:Nat}: ∀{f:Nat} {T:Tn} {tb:List St},wfT im.classes.length bd.locals.length n T.1→dX im bd f T=some tb→wfT im.classes.length bd.locals.length n tb:=by
 intro f
 induction f with
 |zero=>intro T tb h hs;simp[dX]at hs;subst hs;exact h
 |succ f ih=>
  intro T tb h hs;simp only[dX]at hs
  split at hs
  ·injection hs with hs;subst hs;exact h
  ·split at hs
   ·cases hs
   ·rename_i T1 h1
    split at hs
    ·cases hs
    ·exact ih (om hW hb (by exact h) h1) hs
theorem kP {im:Img} (hW:WfI im) {bd:Bod} (hb:WfB im.classes im.sigs bd) {tb:List St} (h:cZ im bd=some tb):wfT im.classes.length bd.locals.length bd.code.length tb:=
 sA hW hb (eU hb) h
theorem cU {cs:List Cls} (hw:WfC cs) {p:Int} (hp:0≤p):bV cs p<p∧ -1≤bV cs p:=by
 unfold bV
 cases h:cs[p.toNat]? with
 |none=>simp;omega
 |some c=>
  have:=hw _ _ h;simp;omega
theorem sB {cs:List Cls} (hw:WfC cs): ∀{f:Nat} {p y:Int},p<f→bq cs f p y=bq cs (f+1) p y:=by
 intro f
 induction f with
 |zero=>intro p y h;simp[bq];intro h';omega
 |succ f ih=>
  intro p y h;rw[bq,bq]
  by_cases h0:p<0
  ·simp[h0]
  ·simp only[h0,if_false]
   by_cases hy:p=y
   ·simp[hy]
   ·simp only[hy,if_false];have:=cU hw (p:=p) (by omega);exact ih (by omega)
theorem d7 {cs:List Cls} (hw:WfC cs) {x y:Int} (h0:0≤x) (h1:x≤4):bq cs 5 x y=true↔x=y∨bq cs 5 (bV cs x) y=true:=by
 rw[bq];simp only[if_neg (show¬x<0 by omega)]
 by_cases hy:x=y
 ·simp[hy]
 ·simp only[hy,if_false,false_or];have:=cU hw h0;rw[sB hw (by omega:bV cs x<(4:Nat))]
theorem iP {cs:List Cls} (hw:WfC cs) {x y:Int} (h:x<0):bq cs 5 x y=false:=by
 rw[bq];simp[h]
theorem o8 {cs:List Cls} (hw:WfC cs) {x:Int} (h:0≤x):bq cs 5 x x=true:=by
 rw[bq];simp;omega
theorem sC {cs:List Cls} (hw:WfC cs): ∀(k:Nat) {x y:Int},x≤k→k≤4→bq cs 5 x y=true→0≤y∧y≤x:=by
 intro k
 induction k with
 |zero=>
  intro x y hx hk h
  by_cases h0:x<0
  ·rw[iP hw h0]at h;cases h
  ·rcases(d7 hw (by omega) (by omega)).1 h with rfl|h
   ·omega
   ·have:=cU hw (p:=x) (by omega);rw[iP hw (by omega)]at h;cases h
 |succ k ih=>
  intro x y hx hk h
  by_cases h0:x<0
  ·rw[iP hw h0]at h;cases h
  ·rcases(d7 hw (by omega) (by omega)).1 h with rfl|h
   ·omega
   ·have:=cU hw (p:=x) (by omega);have:=ih (by omega) (by omega) h;omega
theorem tZ {cs:List Cls} (hw:WfC cs): ∀(k:Nat) {x y z:Int},x≤k→k≤4→bq cs 5 x y=true→bq cs 5 y z=true→bq cs 5 x z=true:=by
 intro k
 induction k with
 |zero=>
  intro x y z hx hk h h'
  by_cases h0:x<0
  ·rw[iP hw h0]at h;cases h
  ·rcases(d7 hw (by omega) (by omega)).1 h with rfl|h
   ·exact h'
   ·have:=cU hw (p:=x) (by omega);rw[iP hw (by omega)]at h;cases h
 |succ k ih=>
  intro x y z hx hk h h'
  by_cases h0:x<0
  ·rw[iP hw h0]at h;cases h
  ·rcases(d7 hw (by omega) (by omega)).1 h with rfl|h
   ·exact h'
   ·have:=cU hw (p:=x) (by omega);exact(d7 hw (by omega) (by omega)).2 (Or.inr (ih (by omega) (by omega) h h'))
theorem sD {cs:List Cls} (hw:WfC cs): ∀{f:Nat} {p y:Int},p<f→f≤5→p≤3→
  (jC cs y f p=45∧ ∀q,bq cs 5 p q=true→bq cs 5 y q=false)∨
  ∃q:Nat,q≤3∧jC cs y f p=UInt8.ofNat (65+q)∧bq cs 5 p q=true∧bq cs 5 y q=true∧ ∀r,bq cs 5 p r=true→bq cs 5 y r=true→bq cs 5 q r=true:=by
 intro f
 induction f with
 |zero=>intro p y h _ _;left;exact⟨rfl,fun q hq=>by rw[iP hw (by omega)]at hq;cases hq⟩
 |succ f ih=>
  intro p y h hf a0;rw[jC]
  by_cases h0:p<0
  ·left
   rw[if_pos h0];exact⟨rfl,fun q hq=>by rw[iP hw h0]at hq;cases hq⟩
  ·rw[if_neg h0]
   by_cases hy:bq cs 5 y p=true
   ·right
    rw[if_pos hy];refine⟨p.toNat,by omega,rfl,?_,?_,?_⟩
    ·rw[Int.toNat_of_nonneg (by omega)];exact o8 hw (by omega)
    ·rw[Int.toNat_of_nonneg (by omega)];exact hy
    ·intro r hr _;rw[Int.toNat_of_nonneg (by omega)];exact hr
   ·rw[if_neg hy];have:=cU hw (p:=p) (by omega);rcases ih (p:=bV cs p) (y:=y) (by omega) (by omega) (by omega)with⟨h1,h2⟩ | ⟨q,hq,h1,h2,h3,h4⟩
    ·left
     refine⟨h1,fun q hq=> ?_⟩;rcases(d7 hw (by omega) (by omega)).1 hq with rfl|hq
     ·simpa using hy
     ·exact h2 q hq
    ·right
     refine⟨q,hq,h1,(d7 hw (by omega) (by omega)).2 (Or.inr h2),h3,fun r hr hr'=> ?_⟩;rcases(d7 hw (by omega) (by omega)).1 hr with rfl|hr
     ·exact absurd hr' hy
     ·exact h4 r hr hr'
abbrev kl (c:UInt8):Int:=(c.toNat:Int)-65
theorem aO {cs:List Cls} {a b:UInt8}:bv cs a b=true↔a=b∨b.toNat=45∨(isC b=true∧a.toNat=122)∨(isC a=true∧isC b=true∧bq cs 5 (kl a) (kl b)=true):=by
 unfold bv;have e:a=b↔a.toNat=b.toNat:=UInt8.toNat_inj.symm;rw[e]
 by_cases h1:a.toNat=b.toNat∨b.toNat=45
 ·simp only[if_pos h1,true_iff];rcases h1 with h|h<;>simp[h]
 ·rw[if_neg h1];have a0:=not_or.1 h1;simp only[a0.1,a0.2,false_or]
  by_cases hb:isC b=false
  ·simp[hb]
  ·have a1:isC b=true:=by simpa using hb
   simp only[hb,if_false,a1,true_and]
   by_cases ha:a.toNat=122
   ·simp[ha]
   ·simp only[ha,if_false,false_or]
    by_cases hc:isC a=false
    ·simp[hc]
    ·have a2:isC a=true:=by simpa using hc
     simp[hc,a2]
theorem fA {cs:List Cls} (a:UInt8):bv cs a a=true:=aO.2 (Or.inl rfl)
theorem gQ {cs:List Cls} (hw:WfC cs) {c:UInt8} (h:isC c=true):0≤kl c∧kl c≤3:=by
 rw[bB]at h;unfold kl;omega
theorem jO {cs:List Cls} (hw:WfC cs) {a b c:UInt8} (h:bv cs a b=true) (h':bv cs b c=true):bv cs a c=true:=by
 rw[aO]at h h';rw[aO];rcases h with rfl|h| ⟨h1,h2⟩ | ⟨h1,h2,h3⟩
 ·exact h'
 ·rcases h' with rfl|h'| ⟨h1,h2⟩ | ⟨h1,h2,h3⟩
  ·exact Or.inr (Or.inl h)
  ·exact Or.inr (Or.inl h')
  ·omega
  ·rw[bB]at h1;omega
 ·rcases h' with rfl|h'| ⟨h3,h4⟩ | ⟨h3,h4,h5⟩
  ·exact Or.inr (Or.inr (Or.inl ⟨h1,h2⟩))
  ·exact Or.inr (Or.inl h')
  ·rw[bB]at h1;omega
  ·exact Or.inr (Or.inr (Or.inl ⟨h4,h2⟩))
 ·rcases h' with rfl|h'| ⟨h4,h5⟩ | ⟨h4,h5,h6⟩
  ·exact Or.inr (Or.inr (Or.inr ⟨h1,h2,h3⟩))
  ·exact Or.inr (Or.inl h')
  ·rw[bB]at h2;omega
  ·have:=gQ hw h1;exact Or.inr (Or.inr (Or.inr ⟨h1,h5,tZ hw 4 (by omega) (by omega) h3 h6⟩))
theorem oo {cs:List Cls} (hw:WfC cs) {a b:UInt8} (h:bv cs a b=true) (h':bv cs b a=true):a=b:=by
 rw[aO]at h h';have e:a.toNat=b.toNat→a=b:=UInt8.toNat_inj.1;rcases h with h|h| ⟨h1,h2⟩ | ⟨h1,h2,h3⟩
 ·exact h
 ·rcases h' with h'|h'| ⟨h1,h2⟩ | ⟨h1,h2,h3⟩
  ·exact h'.symm
  ·exact e (by omega)
  ·omega
  ·rw[bB]at h1;omega
 ·rcases h' with h'|h'| ⟨h3,h4⟩ | ⟨h3,h4,h5⟩
  ·exact h'.symm
  ·omega
  ·rw[bB]at h1;omega
  ·rw[bB]at h4;omega
 ·rcases h' with h'|h'| ⟨h4,h5⟩ | ⟨h4,h5,h6⟩
  ·exact h'.symm
  ·rw[bB]at h1;omega
  ·rw[bB]at h2;omega
  ·have r1:=gQ hw h1;have r2:=gQ hw h2;have:=sC hw 4 (by omega) (by omega) h3;have:=sC hw 4 (by omega) (by omega) h6
   apply e
   unfold kl at*;omega
theorem sE {cs:List Cls} (hw:WfC cs) {q:Nat} (hq:q≤3):isC (UInt8.ofNat (65+q))=true∧kl (UInt8.ofNat (65+q))=q:=by
 have h:(UInt8.ofNat (65+q)).toNat=65+q:=by simp;omega
 rw[bB];unfold kl;omega
theorem kQ {cs:List Cls} (hw:WfC cs) (a b:UInt8):bv cs a (gO cs a b)=true∧bv cs b (gO cs a b)=true∧ ∀c,bv cs a c=true→bv cs b c=true→bv cs (gO cs a b) c=true:=by
 unfold gO
 by_cases h1:bv cs a b=true
 ·rw[if_pos h1];exact⟨h1,fA _,fun c _ h=>h⟩
 rw[if_neg h1]
 by_cases h2:bv cs b a=true
 ·rw[if_pos h2];exact⟨fA _,h2,fun c h _=>h⟩
 rw[if_neg h2];have top: ∀x:UInt8,bv cs x 45=true:=fun x=>aO.2 (Or.inr (Or.inl rfl))
 by_cases h3:isC a=false∨isC b=false
 ·rw[if_pos h3];refine⟨top _,top _,fun c ha hb=> ?_⟩;rw[aO]at ha hb
  have hc:c.toNat=45:=by
   rcases ha with rfl|ha| ⟨p1,p2⟩ | ⟨p1,p2,p3⟩
   ·exact absurd (aO.2 hb) h2
   ·exact ha
   ·rcases hb with rfl|hb| ⟨q1,q2⟩ | ⟨q1,q2,q3⟩
    ·exact absurd (aO.2 (Or.inr (Or.inr (Or.inl ⟨p1,p2⟩)))) h1
    ·exact hb
    ·exact absurd (aO.2 (Or.inl (UInt8.toNat_inj.1 (by omega)))) h1
    ·exact absurd (aO.2 (Or.inr (Or.inr (Or.inl ⟨q1,p2⟩)))) h1
   ·rcases hb with rfl|hb| ⟨q1,q2⟩ | ⟨q1,q2,q3⟩
    ·exact absurd (aO.2 (Or.inr (Or.inr (Or.inr ⟨p1,p2,p3⟩)))) h1
    ·exact hb
    ·exact absurd (aO.2 (Or.inr (Or.inr (Or.inl ⟨p1,q2⟩)))) h2
    ·rcases h3 with h3|h3
     ·rw[h3]at p1;cases p1
     ·rw[h3]at q1;cases q1
  exact aO.2 (Or.inr (Or.inl hc))
 rw[if_neg h3];have ha:isC a=true:=by have:=not_or.1 h3;simpa using this.1
 have hb:isC b=true:=by have:=not_or.1 h3;simpa using this.2
 have r1:=gQ hw ha;have r2:=gQ hw hb;have hp:=cU hw (p:=kl a) r1.1
 have base: ∀c,bv cs a c=true→bv cs b c=true→c.toNat=45∨(isC c=true∧bq cs 5 (bV cs (kl a)) (kl c)=true∧bq cs 5 (kl b) (kl c)=true):=by
  intro c a1 a0;rw[aO]at a1 a0;rcases a1 with rfl|a1| ⟨p1,p2⟩ | ⟨p1,p2,p3⟩
  ·exact absurd (aO.2 a0) h2
  ·exact Or.inl a1
  ·rw[bB]at ha;omega
  ·rcases a0 with rfl|a0| ⟨q1,q2⟩ | ⟨q1,q2,q3⟩
   ·exact absurd (aO.2 (Or.inr (Or.inr (Or.inr ⟨p1,p2,p3⟩)))) h1
   ·exact Or.inl a0
   ·rw[bB]at hb;omega
   ·rcases(d7 hw r1.1 (by omega)).1 p3 with h|h
    ·have:a=c:=by
      apply UInt8.toNat_inj.1
      unfold kl at h;omega
     subst this;exact absurd (aO.2 (Or.inr (Or.inr (Or.inr ⟨q1,q2,q3⟩)))) h2
    ·exact Or.inr ⟨p2,h,q3⟩
 rcases sD hw (f:=5) (p:=bV cs (kl a)) (y:=kl b) (by omega) (by omega) (by omega)with⟨e,a2⟩ | ⟨q,hq,e,e1,e2,e3⟩
 ·rw[show jC cs ((b.toNat:Int)-65) 5 (bV cs ((a.toNat:Int)-65))=45 from e];refine⟨top _,top _,fun c a1 a0=> ?_⟩;rcases base c a1 a0 with h| ⟨_,h4,h5⟩
  ·exact aO.2 (Or.inr (Or.inl h))
  ·rw[a2 _ h4]at h5;cases h5
 ·rw[show jC cs ((b.toNat:Int)-65) 5 (bV cs ((a.toNat:Int)-65))=UInt8.ofNat (65+q)from e];obtain⟨l1,l2⟩:=sE hw hq;refine⟨?_,?_,fun c a1 a0=> ?_⟩
  ·rw[aO,l2];exact Or.inr (Or.inr (Or.inr ⟨ha,l1,(d7 hw r1.1 (by omega)).2 (Or.inr e1)⟩))
  ·rw[aO,l2];exact Or.inr (Or.inr (Or.inr ⟨hb,l1,e2⟩))
  ·rcases base c a1 a0 with h| ⟨h3,h4,h5⟩
   ·exact aO.2 (Or.inr (Or.inl h))
   ·rw[aO,l2];exact Or.inr (Or.inr (Or.inr ⟨l1,h3,e3 _ h4 h5⟩))
end
namespace Sp
def cV:List Nat:=[48,49,50,51,52,53,54,55,56,57,114,119,108,115,43,45,42,47,60,61,101,110,122,103,112,99,120,44,105,111]
def bu (c:UInt8):Bool:=decide (48≤c.toNat)&&decide (c.toNat≤57)
def aw (c:UInt8):Nat:=
 if c.toNat=105 then 3
 else if [43,45,42,47,60,61,101,112,99,44,111].contains c.toNat=true then 2
 else if [115,103,120,119].contains c.toNat=true then 1
 else 0
def kR (s:ByteArray) (cs:List Cls) (ns nl i:Nat):Except Nat (Ins×Nat):=
 if cV.contains (pk s i).toNat=true then
  match aY s cs ns nl (pk s i).toNat (i+1)with
  | .ok (a,b,j)=> .ok (⟨pk s i,a,if bu (pk s i)=true then(pk s i).toNat-48 else b,i⟩,j)
  | .error j=> .error j
 else .error i
def dB (s:ByteArray) (cs:List Cls) (ns nl:Nat):Nat→List Ins→Nat→Nat→Except Nat (List Ins×Nat)
 |_,t,0,i=> .ok (t,i)
 |0,_,_+1,i=> .error i
 |k+1,t,m+1,i=>
  match kR s cs ns nl i with
  | .error j=> .error j
  | .ok (x,j)=>dB s cs ns nl k (t++ [x]) (m+aw x.op) j
theorem iQ {s:ByteArray} {cs:List Cls} {ns nl k:Nat} {t:List Ins} {i:Nat}:dB s cs ns nl k t 0 i= .ok (t,i):=by cases k<;>rfl
theorem sF {s:ByteArray} {cs:List Cls} {ns nl:Nat}: ∀{k:Nat} {t:List Ins} {m i:Nat} {r:List Ins} {j:Nat},dB s cs ns nl k t m i= .ok (r,j)→t.length≤r.length∧r.length≤t.length+k∧ ∃u,r=t++u:=by
 intro k
 induction k with
 |zero=>
  intro t m i r j h
  cases m with
  |zero=>cases h;exact⟨by omega,by omega,[],by simp⟩
  |succ m=>cases h
 |succ k ih=>
  intro t m i r j h
  cases m with
  |zero=>cases h;exact⟨by omega,by omega,[],by simp⟩
  |succ m=>
   simp only[dB]at h
   cases hx:kR s cs ns nl i with
   |error l=>rw[hx]at h;cases h
   |ok y=>
    rw[hx]at h;obtain⟨h1,h2,u,h3⟩:=ih h;simp at h1 h2;exact⟨by omega,by omega,y.1::u,by rw[h3];simp⟩
theorem Ac {s:ByteArray} {cs:List Cls} {ns nl:Nat}: ∀{k:Nat} {t:List Ins} {m n i:Nat},dB s cs ns nl k t (m+n) i=match dB s cs ns nl k t m i with
  | .error j=> .error j
  | .ok (r,j)=>dB s cs ns nl (k-(r.length-t.length)) r n j:=by
 intro k
 induction k with
 |zero=>
  intro t m n i
  cases m with
  |zero=>simp[iQ]
  |succ m=>rw[show m+1+n=(m+n)+1 from by omega];rfl
 |succ k ih=>
  intro t m n i
  cases m with
  |zero=>simp[iQ]
  |succ m=>
   rw[show m+1+n=(m+n)+1 from by omega];simp only[dB]
   cases hx:kR s cs ns nl i with
   |error l=>rfl
   |ok y=>
    obtain⟨x,j⟩:=y;simp only;rw[show m+n+aw x.op=(m+aw x.op)+n from by omega,ih]
    cases hr:dB s cs ns nl k (t++ [x]) (m+aw x.op) j with
    |error l=>rfl
    |ok q=>
     obtain⟨r,l⟩:=q;have:=sF hr;simp only
     have e:k-(r.length-(t++ [x]).length)=k+1-(r.length-t.length):=by
      have:=this.1;simp at this⊢;omega
     rw[e]
def lp (s:ByteArray) (cs:List Cls) (ns nl i:Nat):Except Nat (List Ins×Nat):=
 match dB s cs ns nl 24 [] 1 i with
 | .error j=> .error j
 | .ok (t,j)=>if(pk s j).toNat=46 then .ok (t,j+1)else .error j
def jx (s:ByteArray) (cs:List Cls) (gs:List Sig):Nat→List Bod→Nat→Except Nat (List Bod×Nat)
 |0,bs,i=>if(pk s i).toNat=59 then .ok (bs,i+1)else .error i
 |k+1,bs,i=>if(pk s i).toNat=59 then .ok (bs,i+1)else
  match dH s cs.length i with
  | .error j=> .error j
  | .ok (x,j)=>
   match de s gs.length j with
   | .error l=> .error l
   | .ok (m,l)=>
    if(gL bs x m).isSome=true then .error j else
    match tys s cs.length 58 3 [] l with
    | .error p=> .error p
    | .ok (t,p)=>
     match lp s cs gs.length (t.length+2) p with
     | .error q=> .error q
     | .ok (is,q)=>jx s cs gs k (bs++ [⟨x,m,UInt8.ofNat (65+x)::gM gs m::t,is⟩]) q
def gh (s:ByteArray):Except Nat Img:=
 match di s 4 [] 0 with
 | .error i=> .error i
 | .ok (cs,i)=>
  match eF s cs.length 3 [] i with
  | .error j=> .error j
  | .ok (gs,j)=>
   match jx s cs gs 6 [] j with
   | .error l=> .error l
   | .ok (bs,l)=>
    match tys s cs.length 58 3 [] l with
    | .error p=> .error p
    | .ok (t,p)=>
     match lp s cs gs.length t.length p with
     | .error q=> .error q
     | .ok (is,q)=>if q<s.size then .error q else .ok ⟨cs,gs,bs++ [⟨-1,-1,t,is⟩]⟩
def sk:Nat→List Ins→Nat
 |0,_=>0
 |_+1,[]=>0
 |m+1,x::t=>1+sk (m+aw x.op) t
def full:Nat→List Ins→Prop
 |0,[]=>True
 |0,_::_=>False
 |_+1,[]=>False
 |m+1,x::t=>full (m+aw x.op) t
def bg (t:List Ins) (i:Nat):Nat:=i+sk 1 (t.drop i)
theorem lX {t:List Ins}:sk 0 t=0:=by cases t<;>rfl
theorem AT: ∀{t:List Ins} {m:Nat},sk m t≤t.length:=by
 intro t
 induction t with
 |nil=>intro m;cases m<;>simp[sk]
 |cons x t ih=>
  intro m
  cases m with
  |zero=>simp[sk]
  |succ m=>have:=ih (m:=m+aw x.op);simp[sk];omega
theorem Ad: ∀{t:List Ins} {m n:Nat},sk (m+n) t=sk m t+sk n (t.drop (sk m t)):=by
 intro t
 induction t with
 |nil=>intro m n;cases m<;>cases n<;>simp[sk]
 |cons x t ih=>
  intro m n
  cases m with
  |zero=>simp[lX]
  |succ m=>
   rw[show m+1+n=(m+n)+1 from by omega];simp only[sk];rw[show m+n+aw x.op=(m+aw x.op)+n from by omega,ih,show 1+sk (m+aw x.op) t=sk (m+aw x.op) t+1 from by omega,List.drop_succ_cons];omega
theorem t7: ∀{u:List Ins} {m:Nat} {v:List Ins},full m u→sk m (u++v)=u.length:=by
 intro u
 induction u with
 |nil=>
  intro m v h
  cases m with
  |zero=>simp[lX]
  |succ m=>cases h
 |cons x u ih=>
  intro m v h
  cases m with
  |zero=>cases h
  |succ m=>simp only[List.cons_append,sk,List.length_cons];rw[ih h];omega
theorem qz {s:ByteArray} {cs:List Cls} {ns nl:Nat}: ∀{k:Nat} {t:List Ins} {m i:Nat} {r:List Ins} {j:Nat},dB s cs ns nl k t m i= .ok (r,j)→ ∃u,r=t++u∧full m u∧u.length≤k:=by
 intro k
 induction k with
 |zero=>
  intro t m i r j h
  cases m with
  |zero=>cases h;exact⟨[],by simp,trivial,by simp⟩
  |succ m=>cases h
 |succ k ih=>
  intro t m i r j h
  cases m with
  |zero=>cases h;exact⟨[],by simp,trivial,by simp⟩
  |succ m=>
   simp only[dB]at h
   cases hx:kR s cs ns nl i with
   |error l=>rw[hx]at h;cases h
   |ok y=>
    rw[hx]at h;obtain⟨u,h1,h2,h3⟩:=ih h;exact⟨y.1::u,by rw[h1];simp,h2,by simp;omega⟩
def cJ (cs:List Cls) (gs:List Sig) (lo:List UInt8) (x:Ins):List UInt8:=
 if arith x.op.toNat=true then [105,105]
 else if x.op.toNat=119 then [105]
 else if x.op.toNat=115 then [lo.getD x.b 0]
 else if x.op.toNat=103 then [b8 x.a]
 else if x.op.toNat=112 then [b8 x.a,bT cs x.a x.b]
 else if x.op.toNat=99 then [b8 x.a,fW gs x.b]
 else []
def bD (cs:List Cls) (gs:List Sig) (lo:List UInt8) (x:Ins):UInt8:=
 if x.op.toNat=122 then 122
 else if x.op.toNat=108 then lo.getD x.b 0
 else if x.op.toNat=110 then b8 x.a
 else if x.op.toNat=103 then bT cs x.a x.b
 else if x.op.toNat=99 then dR gs x.b
 else 105
def bk (cs:List Cls) (gs:List Sig) (lo:List UInt8) (x:Ins) (ts:List UInt8):Option UInt8:=
 if cJ cs gs lo x≠ []∧cr cs ts (cJ cs gs lo x)=false then none
 else if x.op.toNat=101 then(if isR (ts.getD 0 0)=true∧isR (ts.getD 1 0)=true then some 105 else none)
 else if x.op.toNat=120 then(if isR (ts.getD 0 0)=true then some (b8 x.a)else none)
 else if x.op.toNat=44 then some (ts.getD 1 0)
 else if x.op.toNat=105 then(if(ts.getD 0 0).toNat=105∧(gO cs (ts.getD 1 0) (ts.getD 2 0)).toNat≠45 then some (gO cs (ts.getD 1 0) (ts.getD 2 0))else none)
 else if x.op.toNat=111 then(if(ts.getD 0 0).toNat=105 then some 105 else none)
 else some (bD cs gs lo x)
def bF (t:List Ins) (g:Nat→Option UInt8):Nat→Nat→Option (List UInt8)
 |0,_=>some []
 |n+1,k=>match g k with
  |none=>none
  |some c=>(bF t g n (bg t k)).map (c:: ·)
def bS (cs:List Cls) (gs:List Sig) (lo:List UInt8) (t:List Ins):Nat→Nat→Option UInt8
 |0,_=>none
 |f+1,i=>match t[i]? with
  |none=>none
  |some x=>match bF t (bS cs gs lo t f) (aw x.op) (i+1)with
   |none=>none
   |some ts=>bk cs gs lo x ts
def ep (s:ByteArray):Except (Nat×Nat) Img:=
 if 400<s.size then .error (1,0)else
 match gh s with
 | .error j=> .error (2,j)
 | .ok im=>match im.bodies.findSome? (fun b=>unl im.classes im.bodies b.code)with
  |some p=> .error (3,p)
  |none=> .ok im
def dN (im:Img) (b:Bod):Bool:=match bS im.classes im.sigs b.locals b.code b.code.length 0 with
 |none=>false
 |some c=>bv im.classes c (if b.cls<0 then 105 else dR im.sigs b.meth.toNat)
def eC (s:ByteArray):Nat×Nat:=match ep s with
 | .error e=>e
 | .ok im=>match im.bodies.findIdx? (fun b=> !dN im b)with
  |some k=>(4,k)
  |none=>(0,0)
inductive V where
 |i (n:Int)
 |z
 |o (k:Nat)
 deriving DecidableEq
def V.K:V→Nat
 | .i _=>105
 | .z=>122
 | .o _=>111
def V.N:V→Int
 | .i n=>n
 | .z=>0
 | .o k=>k
structure Ob where
 cls:Nat
 fs:List V
structure Ev where
 heap:List Ob
 read:Nat
 left:Nat
 out:List UInt8
inductive R where
 |bad (e:Nat) (out:List UInt8)
 |ok (v:V) (l:List V) (s:Ev)
def d8 (t:UInt8):V:=if t.toNat=105 then .i 0 else .z
def cj (cs:List Cls) (a:Nat):List UInt8:=(cs[a]?.map (·.fields)).getD []
def ij (cs:List Cls) (a:Nat):List V:=(cj cs a).map d8
def w32 (n:Int):Int:=RowKit.wrap32 n
def sG (op:Nat) (a b:Int):Int:=
 if op=43 then w32 (a+b)
 else if op=45 then w32 (a-b)
 else if op=42 then w32 (a*b)
 else if op=60 then(if a<b then 1 else 0)
 else(if a=b then 1 else 0)
def qA (s:ByteArray) (i:Nat):Int:=if h:i<s.size then(s[i].toNat:Int)else-1
def Ev.cls (s:Ev) (k:Nat):Nat:=(s.heap[k]?.map (·.cls)).getD 0
def Ev.fs (s:Ev) (k:Nat):List V:=(s.heap[k]?.map (·.fs)).getD []
def Ev.put (s:Ev) (k j:Nat) (v:V):Ev:={s with heap:=s.heap.set k ⟨s.cls k,(s.fs k).set j v⟩}
def Ev.say (s:Ev) (n:Int):Ev:={s with out:=s.out++Lib.itoa n++ [32]}
section
variable (im:Img) (inp:ByteArray)
def lq (x:Ins) (l:List V) (s:Ev):R:=
 if x.op.toNat=114 then .ok (.i (qA inp s.read)) l {s with read:=s.read+1}
 else if x.op.toNat=122 then .ok .z l s
 else if x.op.toNat=108 then .ok (l.getD x.b .z) l s
 else if x.op.toNat=110 then .ok (.o s.heap.length) l {s with heap:=s.heap++ [⟨x.a,ij im.classes x.a⟩]}
 else .ok (.i x.b) l s
def qB (x:Ins) (v:V) (l:List V) (s:Ev):R:=
 if x.op.toNat=115 then .ok (.i 0) (l.set x.b v) s
 else if x.op.toNat=119 then .ok (.i 0) l (s.say v.N)
 else if x.op.toNat=120 then
  match v with
  | .o k=>if bq im.classes 5 (s.cls k) x.a=true then .ok v l s else .bad 8 s.out
  |_=> .ok v l s
 else
  match v with
  | .o k=> .ok ((s.fs k).getD x.b .z) l s
  |_=> .bad 6 s.out
def fe (op:Nat) (a b:Int) (l:List V) (s:Ev):R:=
 if op=47 then(if b=0 then .bad 7 s.out else .ok (.i (w32 (Int.tdiv a b))) l s)else .ok (.i (sG op a b)) l s
def cW (x:Ins) (k:Nat) (s:Ev):Bod:=im.bodies.getD (cq im.classes im.bodies x.b 5 (s.cls k)).toNat ⟨-1,-1,[],[]⟩
def bP (b:Bod) (vs:List V):List V:=vs++(b.locals.drop vs.length).map d8
def qC (call:Bod→List V→R) (d:Nat) (x:Ins) (u v:V) (l:List V) (s:Ev):R:=
 if x.op.toNat=44 then .ok v l s
 else if x.op.toNat=101 then .ok (if u=v then .i 1 else .i 0) l s
 else if x.op.toNat=99 then
  match u with
  | .o k=>if 12≤d then .bad 10 s.out else
   match call (cW im x k s) (bP (cW im x k s) [u,v])with
   | .bad e o=> .bad e o
   | .ok r _ s=> .ok r l s
  |_=> .bad 6 s.out
 else if x.op.toNat=112 then
  match u with
  | .o k=> .ok (.i 0) l (s.put k x.b v)
  |_=> .bad 6 s.out
 else fe x.op.toNat u.N v.N l s
def fF (c d:List V→Ev→R):Nat→List V→Ev→R
 |0,_,s=> .bad 5 s.out
 |k+1,l,s=>match c l s with
  | .bad e o=> .bad e o
  | .ok v l s=>if v.N=0 then .ok (.i 0) l s else
   match d l s with
   | .bad e o=> .bad e o
   | .ok _ l s=>fF c d k l s
def bN:Nat→Bod→Nat→Nat→List V→Ev→R
 |0,_,_,_,_,s=> .bad 5 s.out
 |f+1,b,d,i,l,s=>
  if s.left=0 then .bad 5 s.out else
  match b.code[i]? with
  |none=> .bad 0 s.out
  |some x=>
   if aw x.op=0 then lq im inp x l {s with left:=s.left-1}else
   if x.op.toNat=111 then fF (bN f b d (i+1)) (bN f b d (bg b.code (i+1))) f l {s with left:=s.left-1}else
   match bN f b d (i+1) l {s with left:=s.left-1}with
   | .bad e o=> .bad e o
   | .ok u l s=>
    if x.op.toNat=105 then bN f b d (if u.N=0 then bg b.code (bg b.code (i+1))else bg b.code (i+1)) l s
    else if aw x.op=1 then qB im x u l s
    else match bN f b d (bg b.code (i+1)) l s with
     | .bad e o=> .bad e o
     | .ok v l s=>qC im (fun b' l'=>bN f b' (d+1) 0 l' s) d x u v l s
def lr (fuel:Nat):List UInt8×Int×Nat:=
 let b:=im.bodies.getD (im.bodies.length-1) ⟨-1,-1,[],[]⟩
 match bN im inp fuel b 1 0 (bP b []) ⟨[],0,fuel,[]⟩with
 | .bad e o=>(o,0,e)
 | .ok v _ s=>(s.out,v.N,0)
end
end Sp
end Go.Proofs.YtpfkkmacakjmbaaGreatDoor
