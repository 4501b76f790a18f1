import Derived.OrdersHeld
import Derived.Deep.RegionHeld3
import Derived.Deep.AppendLies
import Derived.Test.YtpfkkmacakjmbaaGreatDoorProg
import Derived.WalkKit
import Derived.WalkSpells
import Derived.Deep.QuietTactic
import Derived.BigQuiet
import Derived.Deep.LoopGhost
import Derived.Deep.DrawnRows
set_option maxRecDepth 100000
set_option maxHeartbeats 6400000
namespace Go.Proofs.YtpfkkmacakjmbaaGreatDoor
namespace Sp
structure Cls where
 par:Int
 fields:List UInt8
structure Sig where
 arg:UInt8
 ret:UInt8
structure Ins where
 op:UInt8
 a:Nat
 b:Nat
 pos:Nat
structure Bod where
 cls:Int
 meth:Int
 locals:List UInt8
 code:List Ins
structure Img where
 classes:List Cls
 sigs:List Sig
 bodies:List Bod
def pk (s:ByteArray) (i:Nat):UInt8:=if h:i<s.size then s[i]else 0
def aO (n:Nat) (c:UInt8):Bool:=decide (65≤c.toNat)&&decide (c.toNat<65+n)
def fi (n:Nat) (c:UInt8):Bool:=decide (48≤c.toNat)&&decide (c.toNat≤57)&&decide (c.toNat<48+n)
def cG (n:Nat) (c:UInt8):Bool:=decide (c.toNat=105)||aO n c
def tys (s:ByteArray) (n:Nat) (e:UInt8):Nat→List UInt8→Nat→Except Nat (List UInt8×Nat)
 |0,t,i=>if pk s i=e then .ok (t,i+1)else .error i
 |k+1,t,i=>if pk s i=e then .ok (t,i+1)else if cG n (pk s i)=true then tys s n e k (t++ [pk s i]) (i+1)else .error i
def AZ (s:ByteArray) (c:UInt8) (i:Nat):Except Nat Nat:=if pk s i=c then .ok (i+1)else .error i
def hU (s:ByteArray) (n i:Nat):Except Nat (Nat×Nat):=if aO n (pk s i)=true then .ok ((pk s i).toNat-65,i+1)else .error i
def eY (s:ByteArray) (n i:Nat):Except Nat (Nat×Nat):=if fi n (pk s i)=true then .ok ((pk s i).toNat-48,i+1)else .error i
def tyP (s:ByteArray) (n i:Nat):Except Nat (UInt8×Nat):=if cG n (pk s i)=true then .ok (pk s i,i+1)else .error i
def inh (cs:List Cls) (p:Int):List UInt8:=if p<0 then []else(cs[p.toNat]?.map (·.fields)).getD []
def mJ (s:ByteArray) (n i:Nat):Except Nat (Int×Nat):=
 if(pk s i).toNat=45 then .ok (-1,i+1)else
 match hU s n i with
 | .ok (p,j)=> .ok ((p:Int),j)
 | .error j=> .error j
def eZ (s:ByteArray):Nat→List Cls→Nat→Except Nat (List Cls×Nat)
 |0,cs,i=>if(pk s i).toNat=59 then .ok (cs,i+1)else .error i
 |k+1,cs,i=>if(pk s i).toNat=59 then .ok (cs,i+1)else
  match mJ s cs.length i with
  | .error j=> .error j
  | .ok (p,j)=>
   match tys s (cs.length+1) 46 2 [] j with
   | .error l=> .error l
   | .ok (own,l)=>eZ s k (cs++ [⟨p,inh cs p++own⟩]) l
def kQ (s:ByteArray) (n:Nat):Nat→List Sig→Nat→Except Nat (List Sig×Nat)
 |0,gs,i=>if(pk s i).toNat=59 then .ok (gs,i+1)else .error i
 |k+1,gs,i=>if(pk s i).toNat=59 then .ok (gs,i+1)else
  match tyP s n i with
  | .error j=> .error j
  | .ok (a,j)=>
   match tyP s n j with
   | .error l=> .error l
   | .ok (b,l)=>
    match AZ s 46 l with
    | .error m=> .error m
    | .ok m=>kQ s n k (gs++ [⟨a,b⟩]) m
def cF (cs:List Cls) (a:Nat):Nat:=((cs[a]?.map (·.fields)).getD []).length
def dY (s:ByteArray) (cs:List Cls) (ns nl:Nat) (c i:Nat):Except Nat (Nat×Nat×Nat):=
 if c=108∨c=115 then
  match eY s nl i with
  | .ok (b,j)=> .ok (0,b,j)
  | .error j=> .error j
 else if c=107 then
  match eY s 10 i with
  | .ok (b,j)=> .ok (0,b,j)
  | .error j=> .error j
 else if c=110∨c=120 then
  match hU s cs.length i with
  | .ok (a,j)=> .ok (a,0,j)
  | .error j=> .error j
 else if c=103∨c=112 then
  match hU s cs.length i with
  | .error j=> .error j
  | .ok (a,j)=>
   match eY s (cF cs a) j with
   | .ok (b,l)=> .ok (a,b,l)
   | .error l=> .error l
 else if c=99 then
  match hU s cs.length i with
  | .error j=> .error j
  | .ok (a,j)=>
   match eY s ns j with
   | .ok (b,l)=> .ok (a,b,l)
   | .error l=> .error l
 else if c=106∨c=102 then
  match eY s 10 i with
  | .error j=> .error j
  | .ok (a,j)=>
   match eY s 10 j with
   | .ok (b,l)=> .ok (0,10*a+b,l)
   | .error l=> .error l
 else .ok (0,0,i)
def da:List Nat:=[107,114,119,108,115,43,45,42,47,60,61,101,110,122,103,112,99,120,100,106,102,116]
def mX (s:ByteArray) (cs:List Cls) (ns nl i:Nat):Except Nat (Ins×Nat):=
 if da.contains (pk s i).toNat=true then
  match dY s cs ns nl (pk s i).toNat (i+1)with
  | .ok (a,b,j)=> .ok (⟨pk s i,a,b,i⟩,j)
  | .error j=> .error j
 else .error i
def fR (s:ByteArray) (cs:List Cls) (ns nl:Nat):Nat→List Ins→Nat→Except Nat (List Ins×Nat)
 |0,is,i=>if(pk s i).toNat=46∧is≠ []then .ok (is,i+1)else .error i
 |k+1,is,i=>if(pk s i).toNat=46∧is≠ []then .ok (is,i+1)else
  match mX s cs ns nl i with
  | .error j=> .error j
  | .ok (x,j)=>fR s cs ns nl k (is++ [x]) j
def mY (bs:List Bod) (x m:Int):Option Nat:=bs.findIdx? fun b=>b.cls==x&&b.meth==m
def kk (gs:List Sig) (m:Nat):UInt8:=(gs[m]?.map (·.arg)).getD 0
def kg (s:ByteArray) (cs:List Cls) (gs:List Sig):Nat→List Bod→Nat→Except Nat (List Bod×Nat)
 |0,bs,i=>if(pk s i).toNat=59 then .ok (bs,i+1)else .error i
 |k+1,bs,i=>if(pk s i).toNat=59 then .ok (bs,i+1)else
  match hU s cs.length i with
  | .error j=> .error j
  | .ok (x,j)=>
   match eY s gs.length j with
   | .error l=> .error l
   | .ok (m,l)=>
    if(mY bs x m).isSome=true then .error j else
    match tys s cs.length 58 3 [] l with
    | .error p=> .error p
    | .ok (t,p)=>
     match fR s cs gs.length (t.length+2) 100 [] p with
     | .error q=> .error q
     | .ok (is,q)=>kg s cs gs k (bs++ [⟨x,m,UInt8.ofNat (65+x)::kk gs m::t,is⟩]) q
def fS (s:ByteArray):Except Nat Img:=
 match eZ s 4 [] 0 with
 | .error i=> .error i
 | .ok (cs,i)=>
  match kQ s cs.length 3 [] i with
  | .error j=> .error j
  | .ok (gs,j)=>
   match kg s cs gs 6 [] j with
   | .error l=> .error l
   | .ok (bs,l)=>
    match tys s cs.length 58 3 [] l with
    | .error p=> .error p
    | .ok (t,p)=>
     match fR s cs gs.length t.length 100 [] p with
     | .error q=> .error q
     | .ok (is,q)=>if q<s.size then .error q else .ok ⟨cs,gs,bs++ [⟨-1,-1,t,is⟩]⟩
theorem kR {s:ByteArray} {n:Nat} {e:UInt8}: ∀{k:Nat} {t:List UInt8} {i:Nat} {r:List UInt8} {j:Nat},tys s n e k t i= .ok (r,j)→r.length≤k+t.length:=by
 intro k
 induction k with
 |zero=>
  intro t i r j h;unfold tys at h
  split at h
  ·cases h;omega
  ·cases h
 |succ k ih=>
  intro t i r j h;unfold tys at h
  split at h
  ·cases h;omega
  ·split at h
   ·have:=ih h;simp at this;omega
   ·cases h
theorem kS {s:ByteArray} {n:Nat} {e:UInt8}: ∀{k:Nat} {t:List UInt8} {i:Nat} {r:List UInt8} {j:Nat},(∀c∈t,cG n c=true)→tys s n e k t i= .ok (r,j)→ ∀c∈r,cG n c=true:=by
 intro k
 induction k with
 |zero=>
  intro t i r j ht h;unfold tys at h
  split at h
  ·cases h;exact ht
  ·cases h
 |succ k ih=>
  intro t i r j ht h;unfold tys at h
  split at h
  ·cases h;exact ht
  ·split at h
   ·refine ih ?_ h;intro c hc;rcases List.mem_append.1 hc with hc|hc
    ·exact ht c hc
    ·simp at hc;subst hc;assumption
   ·cases h
def WfC (cs:List Cls):Prop:= ∀(j:Nat) (c:Cls),cs[j]?=some c→ -1≤c.par∧c.par<j∧c.fields.length≤2*(j+1)∧ ∀t∈c.fields,cG (j+1) t=true
theorem ez {n m:Nat} {c:UInt8} (h:n≤m) (hc:cG n c=true):cG m c=true:=by
 simp only[cG,aO,Bool.or_eq_true,Bool.and_eq_true,decide_eq_true_eq]at*;omega
theorem p9 {s:ByteArray} {n i:Nat} {p:Int} {j:Nat} (h:mJ s n i= .ok (p,j)):j=i+1∧((p= -1∧(pk s i).toNat=45)∨((pk s i).toNat≠45∧aO n (pk s i)=true∧p=(((pk s i).toNat-65:Nat):Int))):=by
 unfold mJ hU at h
 split at h
 ·cases h;exact⟨rfl,Or.inl ⟨rfl,by assumption⟩⟩
 ·split at h
  ·rename_i hh
   split at hh
   ·cases hh;cases h;exact⟨rfl,Or.inr ⟨by assumption,by assumption,rfl⟩⟩
   ·cases hh
  ·cases h
theorem zV {cs:List Cls} (h:WfC cs) (p:Int):(inh cs p).length≤2*cs.length:=by
 unfold inh
 split
 ·simp
 ·cases hc:cs[p.toNat]? with
  |none=>simp
  |some c=>
   have h1:=(List.getElem?_eq_some_iff.1 hc).1;have h2:=(h _ _ hc).2.2.1;simp;omega
theorem qa {s:ByteArray} {cs:List Cls} {p:Int} {i j l:Nat} {own:List UInt8} (h:WfC cs) (hp:mJ s cs.length i= .ok (p,j)) (ho:tys s (cs.length+1) 46 2 [] j= .ok (own,l)):
  WfC (cs++ [⟨p,inh cs p++own⟩]):=by
 intro k c hc;rcases Nat.lt_or_ge k cs.length with hk|hk
 ·rw[List.getElem?_append_left hk]at hc;exact h k c hc
 ·rw[List.getElem?_append_right hk]at hc
  have a0:k-cs.length=0:=by
   have:=(List.getElem?_eq_some_iff.1 hc).1;simp at this;omega
  have a1:k=cs.length:=by omega
  rw[a0]at hc;simp at hc;subst hc;subst a1;obtain⟨_,hp⟩:=p9 hp;have h1:=zV h p;have h2:=kR ho;refine⟨?_,?_,?_,?_⟩
  ·rcases hp with⟨rfl,_⟩ | ⟨_,_,rfl⟩<;>simp<;>omega
  ·rcases hp with⟨rfl,_⟩ | ⟨_,hl,rfl⟩
   ·simp;omega
   ·simp[aO]at hl;simp;omega
  ·simp at h1 h2⊢;omega
  ·intro t ht;simp at ht;rcases ht with ht|ht
   ·unfold inh at ht
    split at ht
    ·simp at ht
    ·cases hc:cs[p.toNat]? with
     |none=>simp[hc]at ht
     |some c=>
      simp[hc]at ht;have h3:=(List.getElem?_eq_some_iff.1 hc).1;exact ez (by omega) ((h _ _ hc).2.2.2 t ht)
   ·exact kS (by simp) ho t ht
theorem clsP_wf' {s:ByteArray}: ∀{k:Nat} {cs:List Cls} {i:Nat} {r:List Cls} {j:Nat},WfC cs→eZ s k cs i= .ok (r,j)→WfC r∧r.length≤k+cs.length:=by
 intro k
 induction k with
 |zero=>
  intro cs i r j hw h;unfold eZ at h
  split at h
  ·cases h;exact⟨hw,by omega⟩
  ·cases h
 |succ k ih=>
  intro cs i r j hw h;unfold eZ at h
  split at h
  ·cases h;exact⟨hw,by omega⟩
  ·split at h
   ·cases h
   ·rename_i p l hp
    split at h
    ·cases h
    ·rename_i own m ho
     have:=ih (qa hw hp ho) h;simp at this;exact⟨this.1,by omega⟩
theorem va {s:ByteArray} {i:Nat} {r:List Cls} {j:Nat} (h:eZ s 4 [] i= .ok (r,j)):WfC r∧r.length≤4:=by
 have:=clsP_wf' (fun j c h=>by simp at h) h;simpa using this
theorem rh {s:ByteArray} {n:Nat}: ∀{k:Nat} {gs:List Sig} {i:Nat} {r:List Sig} {j:Nat},kQ s n k gs i= .ok (r,j)→r.length≤k+gs.length:=by
 intro k
 induction k with
 |zero=>
  intro gs i r j h;unfold kQ at h
  split at h
  ·cases h;omega
  ·cases h
 |succ k ih=>
  intro gs i r j h;unfold kQ at h
  split at h
  ·cases h;omega
  ·split at h
   ·cases h
   ·split at h
    ·cases h
    ·split at h
     ·cases h
     ·have:=ih h;simp at this;omega
def mK (bs:List Bod) (x m:Int):Int:=match mY bs x m with
 |some k=>k
 |none=> -1
def cR (cs:List Cls) (x:Int):Int:=(cs[x.toNat]?.map (·.par)).getD (-1)
def cE (cs:List Cls) (bs:List Bod) (m:Int):Nat→Int→Int
 |0,_=> -1
 |f+1,x=>if x<0 then-1 else if 0≤mK bs x m then mK bs x m else cE cs bs m f (cR cs x)
def ky (cs:List Cls) (bs:List Bod) (n:Nat) (x:Ins):Bool:=
 (decide (x.op.toNat=99)&&decide (cE cs bs x.b 5 x.a<0))||((decide (x.op.toNat=106)||decide (x.op.toNat=102))&&decide (n≤x.b))
def unl (cs:List Cls) (bs:List Bod) (c:List Ins):Option Nat:=(c.find? (ky cs bs c.length)).map (·.pos)
def ee (s:ByteArray):Except (Nat×Nat) Img:=
 if 2000<s.size then .error (1,0)else
 match fS s with
 | .error j=> .error (2,j)
 | .ok im=>
  match im.bodies.findSome? (fun b=>unl im.classes im.bodies b.code)with
  |some p=> .error (3,p)
  |none=> .ok im
structure WfX (cs:List Cls) (ns nl:Nat) (x:Ins):Prop where
 op:da.contains x.op.toNat=true
 pos:x.pos≤2000
 cls:x.op.toNat=110∨x.op.toNat=120∨x.op.toNat=103∨x.op.toNat=112∨x.op.toNat=99→x.a<cs.length
 fld:x.op.toNat=103∨x.op.toNat=112→x.b<cF cs x.a
 sig:x.op.toNat=99→x.b<ns
 loc:x.op.toNat=108∨x.op.toNat=115→x.b<nl
 num:x.b<100
structure WfB (cs:List Cls) (gs:List Sig) (b:Bod):Prop where
 code: ∀x∈b.code,WfX cs gs.length b.locals.length x
 len:0<b.code.length∧b.code.length≤100
 loc:b.locals.length≤5∧ ∀t∈b.locals,cG cs.length t=true
 cls:(b.cls= -1∧b.meth= -1)∨(0≤b.cls∧b.cls<cs.length∧0≤b.meth∧b.meth<gs.length)
structure WfI (im:Img):Prop where
 cls:WfC im.classes
 nc:im.classes.length≤4
 ns:im.sigs.length≤3
 sig: ∀g∈im.sigs,cG im.classes.length g.arg=true∧cG im.classes.length g.ret=true
 bod: ∀b∈im.bodies,WfB im.classes im.sigs b
 nb:im.bodies.length≤7
theorem vd {s:ByteArray} {i:Nat} (h:0<(pk s i).toNat):i<s.size:=by
 unfold pk at h
 split at h
 ·assumption
 ·simp at h
theorem eC {s:ByteArray} {n i d j:Nat} (h:eY s n i= .ok (d,j)):d<n∧d<10:=by
 unfold eY at h
 split at h
 ·rename_i hd
  cases h
  simp[fi]at hd;omega
 ·cases h
theorem jW {s:ByteArray} {n i d j:Nat} (h:hU s n i= .ok (d,j)):d<n:=by
 unfold hU at h
 split at h
 ·rename_i hd
  cases h
  simp[aO]at hd;omega
 ·cases h
theorem zW {s:ByteArray} {cs:List Cls} {ns nl i:Nat} {x:Ins} {j:Nat} (hs:s.size≤2000) (h:mX s cs ns nl i= .ok (x,j)):WfX cs ns nl x:=by
 unfold mX at h
 split at h
 ·rename_i hl
  split at h
  ·rename_i a b l ho
   cases h
   have hp:i<s.size:=vd (by
    rcases Nat.eq_zero_or_pos (pk s i).toNat with h|h
    ·rw[h]at hl;exact absurd hl (by decide)
    ·exact h)
   refine⟨hl,by simp;omega,?_,?_,?_,?_,?_⟩
   all_goals simp only
   all_goals
    unfold dY at ho
    repeat' split at ho
   all_goals first
    | (cases ho;done)
    |skip
   all_goals (intros;first|omega|skip)
   all_goals (cases ho;first|omega| (have:=eC ‹_›;omega) | (have:=jW ‹_›;omega) | (have h1:=eC ‹eY s 10 (i+1)=_›;have h2:=eC ‹eY s 10 _=Except.ok (_,j)›;omega))
  ·cases h
 ·cases h
theorem ri {s:ByteArray} {cs:List Cls} {ns nl:Nat} (hs:s.size≤2000): ∀{k:Nat} {is:List Ins} {i:Nat} {r:List Ins} {j:Nat},(∀x∈is,WfX cs ns nl x)→fR s cs ns nl k is i= .ok (r,j)→(∀x∈r,WfX cs ns nl x)∧0<r.length∧r.length≤k+is.length:=by
 intro k
 induction k with
 |zero=>
  intro is i r j hw h;unfold fR at h
  split at h
  ·rename_i hc;cases h;exact⟨hw,List.length_pos_iff.2 hc.2,by omega⟩
  ·cases h
 |succ k ih=>
  intro is i r j hw h;unfold fR at h
  split at h
  ·rename_i hc;cases h;exact⟨hw,List.length_pos_iff.2 hc.2,by omega⟩
  ·split at h
   ·cases h
   ·rename_i x l hx
    have:=ih (fun y hy=>by
     rcases List.mem_append.1 hy with hy|hy
     ·exact hw y hy
     ·simp at hy;subst hy;exact zW hs hx) h
    simp at this;exact⟨this.1,this.2.1,by omega⟩
theorem rj {s:ByteArray} {n:Nat}: ∀{k:Nat} {gs:List Sig} {i:Nat} {r:List Sig} {j:Nat},(∀g∈gs,cG n g.arg=true∧cG n g.ret=true)→kQ s n k gs i= .ok (r,j)→ ∀g∈r,cG n g.arg=true∧cG n g.ret=true:=by
 intro k
 induction k with
 |zero=>
  intro gs i r j hw h;unfold kQ at h
  split at h
  ·cases h;exact hw
  ·cases h
 |succ k ih=>
  intro gs i r j hw h;unfold kQ at h
  split at h
  ·cases h;exact hw
  ·split at h
   ·cases h
   ·rename_i a l1 h1
    split at h
    ·cases h
    ·rename_i b l2 h2
     split at h
     ·cases h
     ·refine ih (fun g hg=> ?_) h;rcases List.mem_append.1 hg with hg|hg
      ·exact hw g hg
      ·simp at hg;subst hg;unfold tyP at h1 h2
       split at h1<;>split at h2<;>first| (cases h1;done) | (cases h2;done) |skip
       cases h1
       cases h2
       exact⟨by assumption,by assumption⟩
theorem mZ {n x:Nat} (hx:x<n) (hn:n≤4):cG n (UInt8.ofNat (65+x))=true:=by
 have:(UInt8.ofNat (65+x)).toNat=65+x:=by rw[UInt8.toNat_ofNat'];omega
 unfold cG aO;rw[this];simp;omega
theorem zX {s:ByteArray} {cs:List Cls} {gs:List Sig} (hs:s.size≤2000) (hn:cs.length≤4) (hg: ∀g∈gs,cG cs.length g.arg=true∧cG cs.length g.ret=true): ∀{k:Nat} {bs:List Bod} {i:Nat} {r:List Bod} {j:Nat},(∀b∈bs,WfB cs gs b)→kg s cs gs k bs i= .ok (r,j)→(∀b∈r,WfB cs gs b)∧r.length≤k+bs.length:=by
 intro k
 induction k with
 |zero=>
  intro bs i r j hw h;unfold kg at h
  split at h
  ·cases h;exact⟨hw,by omega⟩
  ·cases h
 |succ k ih=>
  intro bs i r j hw h;unfold kg at h
  split at h
  ·cases h;exact⟨hw,by omega⟩
  ·split at h
   ·cases h
   ·rename_i x l1 h1
    split at h
    ·cases h
    ·rename_i m l2 h2
     split at h
     ·cases h
     ·split at h
      ·cases h
      ·rename_i t l3 h3
       split at h
       ·cases h
       ·rename_i is l4 h4
        have hx:=jW h1;have hm:=eC h2;have ht:=kR h3;have ha:=kS (by simp) h3;have hc:=ri hs (by simp) h4
        have:=ih (fun b hb=>by
         rcases List.mem_append.1 hb with hb|hb
         ·exact hw b hb
         ·rw[List.mem_singleton]at hb;subst hb;refine⟨hc.1,⟨hc.2.1,by simpa using hc.2.2⟩,⟨by simp at ht⊢;omega,?_⟩,Or.inr ⟨by simp,by simp;omega,by simp,by simp;omega⟩⟩;intro c a0;rw[List.mem_cons,List.mem_cons]at a0;rcases a0 with rfl|rfl|a0
          ·exact mZ hx hn
          ·unfold kk;rw[List.getElem?_eq_getElem (by omega)];exact(hg _ (List.getElem_mem _)).1
          ·exact ha c a0) h
        simp at this;exact⟨this.1,by omega⟩
theorem m6 {s:ByteArray} {im:Img} (hs:s.size≤2000) (h:fS s= .ok im):WfI im:=by
 unfold fS at h
 split at h
 ·cases h
 ·rename_i cs l1 h1
  split at h
  ·cases h
  ·rename_i gs l2 h2
   split at h
   ·cases h
   ·rename_i bs l3 h3
    split at h
    ·cases h
    ·rename_i t l4 h4
     split at h
     ·cases h
     ·rename_i is l5 h5
      split at h
      ·cases h
      ·cases h
       have hc:=va h1;have a3:=rh h2;have a2:=rj (by simp) h2;have hb:=zX hs hc.2 a2 (by simp) h3;have ht:=kR h4;have a4:=kS (by simp) h4;have a1:=ri hs (by simp) h5;refine⟨hc.1,hc.2,by simpa using a3,a2,?_,by simp at hb⊢;omega⟩;intro b a0;simp at a0;rcases a0 with a0|rfl
       ·exact hb.1 b a0
       ·exact⟨a1.1,⟨a1.2.1,by simpa using a1.2.2⟩,⟨by simp at ht⊢;omega,a4⟩,Or.inl ⟨rfl,rfl⟩⟩
end Sp
section
open Go
section
variable {P:Program} {ops:Array Oper} {Q:Exit→Act→World→Prop} {S:World→Prop} {p:Nat}
def mL (P:Program) (ops:Array Oper) (Q:Exit→Act→World→Prop) (S:World→Prop) (p:Nat):Nat→Array Bool→Act→World→Prop
 |0,listed,a,w=>Region.ready .any ops listed=[]∧Q .normal a w
 |fuel+1,listed,a,w=>
  (Region.ready .any ops listed=[]→Q .normal a w)∧
  ∀i∈Region.ready .any ops listed,wpOp P ops Q i (fun a' w'=>(i<p→S w')∧mL P ops Q S p fuel (listed.setIfInBounds i true) a' w') a w
theorem ju: ∀(fuel:Nat) (listed:Array Bool) (a:Act) (w:World),mL P ops Q S p fuel listed a w→wpAny P .any ops Q fuel listed a w
 |0,_,_,_,h=>h
 |fuel+1,_,_,_,h=>⟨h.1,fun i hi=>wpOp_mono (fun a' w' h'=>ju fuel _ a' w' h'.2) (h.2 i hi)⟩
theorem kA {i:Nat} {oi:Oper} {v:Value} (hi:ops[i]?=some oi) (hip:i<p) (hsel: ∀(j:Nat) (o:Oper) cs b,ops[j]?=some o→o.op≠ .select cs b)
  (hwait: ∀j oj,ops[j]?=some oj→p≤j→ ∃e∈oj.after,Region.binds .any e=true∧e.on=i)
  (hQ: ∀c a w,Q (.panic c) (a.put oi.dst v) w→Q (.panic c) a w):
  ∀(fuel:Nat) (listed:Array Bool) (a:Act) (w:World),
   (∀j oj,ops[j]?=some oj→j≠i→listed.getD j true=false→(∀e∈oj.after,Region.binds .any e=true→e.on≠i)→oi.apart ops oj=true)→
   i∈Region.ready .any ops listed→YieldsIf P ops S oi v a→S w→
   mL P ops Q S p fuel (listed.setIfInBounds i true) (a.put oi.dst v) w→mL P ops Q S p (fuel+1) listed a w:=by
 intro fuel
 induction fuel with
 |zero=>
  intro listed a w _ hr hy hS H;refine⟨fun h=>(by rw[h]at hr;cases hr),fun j hj=> ?_⟩
  by_cases hji:j=i
  ·subst hji;exact hy.wpOp hi hS ⟨fun _=>hS,H⟩
  ·have:=ready_mono hj hji;rw[H.1]at this
   cases this
 |succ fuel ih=>
  intro listed a w a0 hr hy hS H;refine⟨fun h=>(by rw[h]at hr;cases hr),fun j hj=> ?_⟩
  by_cases hji:j=i
  ·subst hji;exact hy.wpOp hi hS ⟨fun _=>hS,H⟩
  ·have h1:=H.2 j (ready_mono hj hji);obtain⟨a2,oj,a4,a5⟩:=mem_ready.1 hj
   have a3: ∀e∈oj.after,Region.binds .any e=true→e.on≠i:=fun e he hb heq=>by
    have h1:=a5 e he hb;have h0:=(mem_ready.1 hr).1;rw[heq]at h1;rcases Nat.lt_or_ge i listed.size with h'|h'
    ·simp[h']at h0 h1;rw[h0]at h1;cases h1
    ·simp[Array.getElem?_eq_none h']at h1
   have a6:j<p:=by
    rcases Nat.lt_or_ge j p with h|h
    ·exact h
    ·obtain⟨e,he,hb,ho⟩:=hwait j oj a4 h;exact absurd ho (a3 e he hb)
   have h2:=wpOp_putIf a4 (a0 j oj a4 hji a2 a3) (fun cs b=>hsel i oi cs b hi) (fun cs b=>hsel j oj cs b a4) hQ hy h1
   have a1: ∀k ok,ops[k]?=some ok→k≠i→(listed.setIfInBounds j true).getD k true=false→
     (∀e∈ok.after,Region.binds .any e=true→e.on≠i)→oi.apart ops ok=true:=fun k ok hk hki hun hno=>by
    refine a0 k ok hk hki ?_ hno
    by_cases hjk:j=k
    ·subst hjk;exact a2
    ·rw[getD_set_ne true hjk]at hun;exact hun
   refine wpOp_mono (fun a' w' h3=>⟨h3.2.1,ih (listed.setIfInBounds j true) a' w' a1 (ready_mono hr (Ne.symm hji)) h3.1 (h3.2.1 a6) ?_⟩) h2;rw[Array.setIfInBounds_comm _ _ hji];exact h3.2.2
def eT (n k:Nat):Array Bool:=((List.range n).map fun i=>decide (i<k)).toArray
theorem fj (n k:Nat):(eT n k).setIfInBounds k true=eT n (k+1):=by
 unfold eT
 apply Array.ext
 ·simp
 ·intro i h1 h2
  by_cases h:k=i
  ·subst h;simp
  ·rw[Array.getElem_setIfInBounds_ne (by simpa using h1) h];simp;omega
theorem vL (n:Nat):Array.replicate n false=eT n 0:=by
 unfold eT
 apply Array.ext
 ·simp
 ·intro i h1 h2;simp
def yi (ops:Array Oper) (p k:Nat):Bool:=
 decide (k<p)&&Region.noSelect ops&&Region.free .any ops (eT ops.size k) k&&(Region.ready .any ops (eT ops.size k)).contains k&&
 (List.range ops.size).all fun j=>decide (j<p)||match ops[j]? with
  |some oj=>oj.after.any fun e=>Region.binds .any e&&e.on==k
  |none=>true
def ir (P:Program) (ops:Array Oper) (Q:Exit→Act→World→Prop) (S:World→Prop) (p k:Nat) (a:Act) (w:World):Prop:=
 mL P ops Q S p (ops.size-k) (eT ops.size k) a w
theorem aD {id:Nat} {a:Act} {w:World} (S:World→Prop) (p:Nat) (hm:P.follows .mixedOrders=true) (h:ir P ops Q S p 0 a w.drew):(Code.region id ops true).wp P Q a w:=by
 refine wp_region_any hm (ju (S:=S) (p:=p) _ _ _ _ ?_);rw[vL];exact h
theorem aL:(∀(l:List Value) (i:Nat) (v:Value),l.toArray.setIfInBounds i v=(l.set i v).toArray)∧(∀(x:Value) (l:List Value) (v:Value),(x::l).set 0 v=v::l)∧
  (∀(x:Value) (l:List Value) (n:Nat) (v:Value),(x::l).set (n+1) v=x::l.set n v):=⟨fun _ _ _=>by simp,fun _ _ _=>rfl,fun _ _ _ _=>rfl⟩
theorem dO {ops:Array Oper} {k:Nat} {o:Oper} {rest:List Oper} (h:ops.toList.drop k=o::rest):ops[k]?=some o:=by
 have h1:(ops.toList.drop k)[0]?=some o:=by rw[h];rfl
 rw[List.getElem?_drop,Nat.add_zero]at h1;simpa using h1
theorem aJ {k:Nat} {o:Oper} {rest:List Oper} {v:Value} {a:Act} {w:World} (hod:ops.toList.drop k=o::rest) (hc:yi ops p k=true)
  (hQ: ∀c a w,Q (.panic c) (a.put o.dst v) w→Q (.panic c) a w)
  (hw:Region.wanted o (yielded ops a.tmps)=true) (hS:S w) (hy: ∀w,S w→(execOp a.eval o).run P w= .ok (.value v) w) (h:ir P ops Q S p (k+1) (a.put o.dst v) w):ir P ops Q S p k a w:=by
 have ho:=dO hod;unfold yi at hc;simp only[Bool.and_eq_true,decide_eq_true_eq,List.all_eq_true,List.mem_range]at hc;obtain⟨⟨⟨⟨a2,a3⟩,a0⟩,a4⟩,a5⟩:=hc;have hk:k<ops.size:=(Array.getElem?_eq_some_iff.1 ho).1;unfold ir at*;rw[show ops.size-k=(ops.size-(k+1))+1 from by omega];refine kA ho a2 (Region.noSelect_spec a3) ?_ hQ _ _ a w (Region.free_spec ho a0) (by simpa using a4) (Or.inl ⟨hw,hy⟩) hS (by rw[fj];exact h);intro j oj hj a6;have a1:j<ops.size:=(Array.getElem?_eq_some_iff.1 hj).1;have:=a5 j a1;rw[hj]at this;simp only[Bool.or_eq_true,decide_eq_true_eq,Array.any_eq_true,Bool.and_eq_true,beq_iff_eq]at this
 rcases this with h1| ⟨i,hi,h1,h2⟩
 ·omega
 ·exact⟨oj.after[i],Array.getElem_mem hi,h1,h2⟩
theorem ah {k:Nat} {o:Oper} {rest:List Oper} {a:Act} {w:World} (hod:ops.toList.drop k=o::rest) (hr:Region.ready .any ops (eT ops.size k)=[k])
  (h: ∀K':Act→World→Prop,Go.Shut (∀a w,(k<p→S w)→ir P ops Q S p (k+1) a w→K' a w)→if Region.wanted o (yielded ops a.tmps)=true then Oper.wp P o a w K' Q else K' (a.put o.dst undef) w):ir P ops Q S p k a w:=by
 have ho:=dO hod;have hk:k<ops.size:=(Array.getElem?_eq_some_iff.1 ho).1;unfold ir;rw[show ops.size-k=(ops.size-(k+1))+1 from by omega];refine⟨fun h=>(by rw[hr]at h;cases h),fun i hi=> ?_⟩;rw[hr]at hi;simp at hi;subst hi;exact wpOp_step ho (fun K' hK=>h K' (fun a w hS hW=>hK a w ⟨hS,by rw[fj];exact hW⟩))
theorem aH {k:Nat} {a:Act} {w:World} (hk:k=ops.size) (hr:Region.ready .any ops (eT ops.size k)=[]) (h:Q .normal a w):ir P ops Q S p k a w:=by
 subst hk;unfold ir;rw[Nat.sub_self];exact⟨hr,h⟩
def yj (ops:Array Oper) (p k:Nat):Bool:=decide (p≤k)&&decide (k≤ops.size)&&decide (Region.ready .any ops (eT ops.size ops.size)=[])&&(List.range' k (ops.size-k)).all fun j=>decide (Region.ready .any ops (eT ops.size j)=[j])
theorem pi: ∀(m k:Nat) (a:Act) (w:World),k+m=ops.size→p≤k→Region.ready .any ops (eT ops.size ops.size)=[]→(∀j∈List.range' k m,Region.ready .any ops (eT ops.size j)=[j])→wpOps P ops Q (List.range' k m) a w→mL P ops Q S p m (eT ops.size k) a w
 |0,k,a,w,hk,_,h0,_,h=>⟨by rw[show k=ops.size from by omega];exact h0,h⟩
 |m+1,k,a,w,hk,hp,h0,hr,h=>by
  have h1:=hr k (by simp[List.range'_succ]);rw[List.range'_succ,wpOps_cons]at h;refine⟨fun e=>(by rw[h1]at e;cases e),fun i hi=> ?_⟩;rw[h1,List.mem_singleton]at hi;subst hi;refine wpOp_mono (fun a' w' h'=>⟨fun e=>absurd e (by omega),?_⟩) h;rw[fj];exact pi m (i+1) a' w' (by omega) (by omega) h0 (fun j hj=>hr j (by rw[List.range'_succ];exact List.mem_cons_of_mem _ hj)) h'
theorem jX {k:Nat} {rest:List Oper} {a:Act} {w:World} (hod:ops.toList.drop k=rest) (hc:yj ops p k=true) (h:wpList P ops Q rest a w):ir P ops Q S p k a w:=by
 simp only[yj,Bool.and_eq_true,decide_eq_true_eq,List.all_eq_true]at hc;have hl:rest.length=ops.size-k:=by rw[←hod];simp
 rw[←wpOps_eq_wpList (ops:=ops) rest k (fun j=>by rw[←hod,List.getElem?_drop];simp),hl]at h;exact pi _ k a w (by omega) hc.1.1.1 hc.1.2 hc.2 h
end
end
section
open Go Go.RowKit
structure But (F:Nat→Prop) (w w':World):Prop where
 os:w'.os=w.os
 tape:w'.tape=w.tape
 output:w'.output=w.output
 size:w.heap.size≤w'.heap.size
 block: ∀k,k<w.heap.size→ ¬F k→w'.heap[k]?=w.heap[k]?
theorem But.refl (F:Nat→Prop) (w:World):But F w w:=⟨rfl,rfl,rfl,Nat.le_refl _,fun _ _ _=>rfl⟩
theorem But.trans {F:Nat→Prop} {a b c:World} (h:But F a b) (k:But F b c):But F a c:=
 ⟨k.os.trans h.os,k.tape.trans h.tape,k.output.trans h.output,Nat.le_trans h.size k.size,
  fun i hi hf=>(k.block i (Nat.lt_of_lt_of_le hi h.size) hf).trans (h.block i hi hf)⟩
theorem But.mono {F G:Nat→Prop} {a b:World} (h:But F a b) (hs: ∀k,k<a.heap.size→F k→G k):But G a b:=
 ⟨h.os,h.tape,h.output,h.size,fun k hk hg=>h.block k hk (fun hf=>hg (hs k hk hf))⟩
theorem But.next {F G:Nat→Prop} {a b c:World} (h:But G a b) (k:But F b c) (hs: ∀i,i<a.heap.size→F i→G i):But G a c:=
 ⟨k.os.trans h.os,k.tape.trans h.tape,k.output.trans h.output,Nat.le_trans h.size k.size,
  fun i hi hf=>(k.block i (Nat.lt_of_lt_of_le hi h.size) (fun h'=>hf (hs i hi h'))).trans (h.block i hi hf)⟩
theorem But.drewN (F:Nat→Prop) (w:World) (n:Nat):But F w (w.drewN n):=⟨rfl,rfl,rfl,Nat.le_refl _,fun _ _ _=>rfl⟩
theorem But.drew (F:Nat→Prop) (w:World):But F w w.drew:=⟨rfl,rfl,rfl,Nat.le_refl _,fun _ _ _=>rfl⟩
theorem But.alloc (F:Nat→Prop) (w:World) (o:Obj):But F w (w.alloc o):=
 ⟨rfl,rfl,rfl,by simp,fun k hk _=>Below.heap_alloc _ _ _ hk⟩
theorem But.setCell {F:Nat→Prop} (w:World) {a:Addr} (ha:F a.block) (u:Value):But F w (w.setCell a u):=
 ⟨rfl,rfl,rfl,by simp[World.setCell],fun k _ hf=>Below.heap_setCell _ _ _ _ (fun e=>hf (e▸ha))⟩
theorem But.setB (w:World) (b j:Nat) (u:Value):But (· =b) w (w.setCell ⟨b,j,none⟩ u):=But.setCell (F:=fun x=>x=b) w (a:=⟨b,j,none⟩) (by rfl) u
theorem But.cell {F:Nat→Prop} {w w':World} (h:But F w w') {p:Addr} (hp:p.block<w.heap.size) (hf: ¬F p.block):w'.cell? p=w.cell? p:=
 World.cell?_of_block (w:=w) (h.block p.block hp hf)
theorem But.frozen {F:Nat→Prop} {w w':World} (h:But F w w') {p:Addr} (hp:p.block<w.heap.size) (hf: ¬F p.block):w'.frozen? p=w.frozen? p:=
 World.frozen?_of_block (w:=w) (h.block p.block hp hf)
theorem But.toBelow {F:Nat→Prop} {B:Nat} {w w':World} (h:But F w w') (hB:B≤w.heap.size) (hF: ∀k,F k→B≤k):Below B w w':=
 ⟨h.os,h.tape,h.output,h.size,fun k hk=>h.block k (by omega) (fun hf=>by have:=hF k hf;omega)⟩
theorem ae {w:World} {b:Nat} {o:Obj} (h:w.heap[b]?=some o):b<w.heap.size:=by
 rcases Nat.lt_or_ge b w.heap.size with h1|h1
 ·exact h1
 ·rw[Array.getElem?_eq_none h1]at h;cases h
section
variable {w w':World} {g:Nat} {t:TypeId} {fr:Nat×Nat} {l:List Value} {x0 x1 x2 x3 x4 x5 x6 x7 x8 x9 x10:Value}
theorem ce0 (h:w.heap[g]?=some (.cells (List.toArray (x0::l)) t fr)):w.cell? ⟨g,0,none⟩=some x0:=by rw[cell_of_row w g 0 _ _ _ h];rfl
theorem ce1 (h:w.heap[g]?=some (.cells (List.toArray (x0::x1::l)) t fr)):w.cell? ⟨g,1,none⟩=some x1:=by rw[cell_of_row w g 1 _ _ _ h];rfl
theorem ce2 (h:w.heap[g]?=some (.cells (List.toArray (x0::x1::x2::l)) t fr)):w.cell? ⟨g,2,none⟩=some x2:=by rw[cell_of_row w g 2 _ _ _ h];rfl
theorem ce3 (h:w.heap[g]?=some (.cells (List.toArray (x0::x1::x2::x3::l)) t fr)):w.cell? ⟨g,3,none⟩=some x3:=by rw[cell_of_row w g 3 _ _ _ h];rfl
theorem ce4 (h:w.heap[g]?=some (.cells (List.toArray (x0::x1::x2::x3::x4::l)) t fr)):w.cell? ⟨g,4,none⟩=some x4:=by rw[cell_of_row w g 4 _ _ _ h];rfl
theorem ce5 (h:w.heap[g]?=some (.cells (List.toArray (x0::x1::x2::x3::x4::x5::l)) t fr)):w.cell? ⟨g,5,none⟩=some x5:=by rw[cell_of_row w g 5 _ _ _ h];rfl
theorem ce6 (h:w.heap[g]?=some (.cells (List.toArray (x0::x1::x2::x3::x4::x5::x6::l)) t fr)):w.cell? ⟨g,6,none⟩=some x6:=by rw[cell_of_row w g 6 _ _ _ h];rfl
theorem ce7 (h:w.heap[g]?=some (.cells (List.toArray (x0::x1::x2::x3::x4::x5::x6::x7::l)) t fr)):w.cell? ⟨g,7,none⟩=some x7:=by rw[cell_of_row w g 7 _ _ _ h];rfl
theorem ce8 (h:w.heap[g]?=some (.cells (List.toArray (x0::x1::x2::x3::x4::x5::x6::x7::x8::l)) t fr)):w.cell? ⟨g,8,none⟩=some x8:=by rw[cell_of_row w g 8 _ _ _ h];rfl
theorem ce9 (h:w.heap[g]?=some (.cells (List.toArray (x0::x1::x2::x3::x4::x5::x6::x7::x8::x9::l)) t fr)):w.cell? ⟨g,9,none⟩=some x9:=by rw[cell_of_row w g 9 _ _ _ h];rfl
theorem Ci (h:w.heap[g]?=some (.cells (List.toArray (x0::x1::x2::x3::x4::x5::x6::x7::x8::x9::x10::l)) t fr)):w.cell? ⟨g,10,none⟩=some x10:=by rw[cell_of_row w g 10 _ _ _ h];rfl
theorem But.kp {o:Obj} (hB:But (fun _=>False) w w') (h:w.heap[g]?=some o):w'.heap[g]?=some o:=(hB.block g (ae h) (fun h=>h)).trans h
theorem But.kc {p:Addr} {v:Option Value} (hB:But (fun _=>False) w w') (h:w.cell? p=v) (hl:p.block<w.heap.size):w'.cell? p=v:=(hB.cell hl (fun h=>h)).trans h
theorem But.kz {p:Addr} {v:Bool} (hB:But (fun _=>False) w w') (h:w.frozen? p=v) (hl:p.block<w.heap.size):w'.frozen? p=v:=(hB.frozen hl (fun h=>h)).trans h
theorem tf (x:Nat) (k:Int) (h:(x:Int)≠k):((x:Int)==k)=false:=by rw[beq_eq_false_iff_ne];exact h
end
theorem aq {w:World} {g:Nat} (h:w.heap.size=g) (o:Obj):(w.alloc o).heap[g]?=some o:=by subst h;exact heap_alloc_new _ _
theorem bV (w:World) (a:Addr) (u:Value):(w.setCell a u).heap.size=w.heap.size:=by simp[World.setCell]
theorem ag {F:Nat→Prop} {w w':World} {base e size n:Nat} {v:Value} {xs:List Value} (h:w.ownsRow base e size v n xs) (hb:But F w w') (hf: ∀g,v.ownBlock=some g→ ¬F g):w'.ownsRow base e size v n xs:=by
 refine⟨h.1,?_⟩;rcases h.2 with h2| ⟨g,cap,cur,hv,hg,hh,r⟩
 ·exact Or.inl h2
 ·exact Or.inr ⟨g,cap,cur,hv,hg,(hb.block g (ae hh) (hf g (by rw[hv];rfl))).trans hh,r⟩
theorem aA {w:World} {base e size n:Nat} {v:Value} {xs:List Value} (h:w.ownsRow base e size v n xs): ∀g,v.ownBlock=some g→base≤g:=by
 intro g hg;rcases h.2 with⟨rfl,_⟩ | ⟨g',cap,cur,rfl,hb,_⟩
 ·cases hg
 ·simp[Value.ownBlock]at hg;omega
theorem aX {w:World} {base e size n:Nat} {v:Value} {xs:List Value} (h:w.ownsRow base e size v n xs): ∀g,v.ownBlock=some g→g<w.heap.size:=by
 intro g hg;rcases h.2 with⟨rfl,_⟩ | ⟨g',cap,cur,rfl,hb,hh,_⟩
 ·cases hg
 ·simp[Value.ownBlock]at hg;subst hg;exact ae hh
theorem fT (w:World) (base e size:Nat):w.ownsRow base e size (.slice none 0 0) 0 []:=⟨by simp,Or.inl ⟨rfl,rfl⟩⟩
theorem aw {w:World} {base e size n:Nat} {v:Value} {xs:List Value} (h:w.ownsRow base e size v n xs): ∃ao cap,v= .slice ao n cap:=by
 rcases h.2 with⟨rfl,rfl⟩ | ⟨g',cap,cur,rfl,_⟩
 ·exact⟨_,_,rfl⟩
 ·exact⟨_,_,rfl⟩
theorem iu {w:World} {base e size n:Nat} {v:Value} {xs:List Value} (h:w.ownsRow base e size v n xs) {j:Nat} {u:Value} (hu:xs[j]?=some u):
  ∃g cap,v= .slice (some ⟨g,0,none⟩) n cap∧w.cell? ⟨g,j,none⟩=some u∧g<w.heap.size∧base≤g:=by
 rcases h.2 with⟨rfl,rfl⟩ | ⟨g,cap,cur,rfl,hb,hh,_⟩
 ·have:=h.1;simp at this;subst this;simp at hu
 ·refine⟨g,cap,rfl,?_,ae hh,hb⟩;have hj:j<n*size:=by rw[←h.1];exact(List.getElem?_eq_some_iff.1 hu).1
  rw[h.cellAt j hj,hu]
theorem bc {w w':World} {row:Option Nat} (h:w.grownBy w' row):But (fun k=>row=some k) w w':=
 ⟨h.os,h.tape,h.output,h.size,fun k hk hf=>h.block k hk (fun e=>hf e.symm)⟩
def fk (gs:List Sp.Sig):List Value:=gs.flatMap fun g=> [.int .u8 g.arg.toNat,.int .u8 g.ret.toNat]
theorem jY {α β:Type} (f:α→List β) (m:Nat) (hf: ∀x,(f x).length=m): ∀(l:List α) (j k:Nat) (x:α),l[j]?=some x→k<m→(l.flatMap f)[j*m+k]?=(f x)[k]?:=by
 intro l
 induction l with
 |nil=>intro j k x h _;simp at h
 |cons y l ih=>
  intro j k x h hk
  cases j with
  |zero=>
   simp at h;subst h;rw[List.flatMap_cons,Nat.zero_mul,Nat.zero_add,List.getElem?_append_left (by rw[hf];exact hk)]
  |succ j=>
   simp at h;rw[List.flatMap_cons,List.getElem?_append_right (by rw[hf,Nat.succ_mul];omega),hf];rw[show(j+1)*m+k-m=j*m+k from by rw[Nat.succ_mul];omega];exact ih j k x h hk
theorem gJ {gs:List Sp.Sig} {j k:Nat} {g:Sp.Sig} (h:gs[j]?=some g) (hk:k<2):(fk gs)[j*2+k]?=[Value.int .u8 g.arg.toNat,.int .u8 g.ret.toNat][k]?:=
 jY (fun g:Sp.Sig=> [Value.int .u8 g.arg.toNat,.int .u8 g.ret.toNat]) 2 (fun _=>rfl) gs j k g h hk
theorem aI {w:World} {base e size n cap:Nat} {ao:Option Addr} {xs:List Value} (h:w.ownsRow base e size (.slice ao n cap) n xs) (hn:0<n):
  ∃g,ao=some ⟨g,0,none⟩∧g<w.heap.size∧base≤g∧ ∀j u,xs[j]?=some u→w.cell? ⟨g,j,none⟩=some u:=by
 obtain⟨g,cap',hv,hb,a0⟩:=h.form hn;injection hv with h1 h2 h3;subst h1;refine⟨g,rfl,a0,hb,fun j u hu=> ?_⟩;obtain⟨g',c',a1,hc,_⟩:=iu h hu;injection a1 with h1;injection h1 with h1;injection h1 with h1;subst h1;exact hc
theorem oO (cs:List Sp.Sig) (c:Sp.Sig):fk (cs++ [c])=fk cs++ [.int .u8 c.arg.toNat,.int .u8 c.ret.toNat]:=by simp[fk]
theorem qb (l m:List UInt8):(⟨l.toArray⟩:ByteArray)++⟨m.toArray⟩=⟨(l++m).toArray⟩:=by
 apply ByteArray.ext
 simp
theorem A2 (c:UInt8) (w:World):(convert 112 9 (.slice (some ⟨w.heap.size,0,none⟩) 1 1)).run Tryz.prog (w.alloc (.cells #[.int .u8 c.toNat] 5))= .ok (.string ⟨#[c]⟩) (w.alloc (.cells #[.int .u8 c.toNat] 5)):=by
 refine run_convert_bytes_back (w.alloc (.cells #[.int .u8 c.toNat] 5)) 112 9 5 ⟨w.heap.size,0,none⟩ 1 [c] (by kernel_rfl) (by kernel_rfl) (by kernel_rfl) ?_;intro j hj
 match j,hj with
 |0,_=>simp[Addr.add]
theorem dE (n:Int) (h1: -1000000000≤n) (h2:n≤1000000000):IntKind.i64.wrap n=n:=(IntWalk.i64_left n).trans (IntWalk.wrap64_in n ⟨by omega,by omega⟩)
theorem hid {p:Prop} (h:p):Hid p:=h
theorem b8 {P:Program} {fn:Func} {R:Ending→World→Prop} {a:Act} {w:World} (v:Value) {t:Nat} (hf:fn.results=#[.tmp t]) (hd:a.defers=[]) (hc:a.tmps.getD t undef=v) (hR:R (.returned v) w):bodyPost P fn R .ret a w:=by
  refine bodyPost_ret (v:=v) ?_ hd hR;have a0:a.tmps[t]?.getD undef=v:=by simpa using hc
  simp[results,hf,a0,go_sem]
theorem tI {P:Program} {fn:Func} {R:Ending→World→Prop} {a:Act} {w:World} (hf:fn.results=#[]) (hd:a.defers=[]) (hR:R (.returned (.tuple #[])) w):bodyPost P fn R .ret a w:=by
  refine bodyPost_ret (v:= .tuple #[]) ?_ hd hR;simp[results,hf,go_sem]
end
section
open Go
section
variable {P:Program} {ops:Array Oper} {Q:Exit→Act→World→Prop} {S:World→Prop} {p:Nat}
def qc (P:Program) (ops:Array Oper) (Q:Exit→Act→World→Prop) (S:World→Prop) (p q k:Nat) (a:Act) (w:World):Prop:=
 mL P ops Q S p (ops.size-(k+1)) ((eT ops.size k).setIfInBounds q true) a w
theorem vM {k q:Nat} {o oq:Oper} {rest restq:List Oper} {a:Act} {w:World} (hod:ops.toList.drop k=o::rest) (hodq:ops.toList.drop q=oq::restq)
  (hr:Region.ready .any ops (eT ops.size k)=[k,q])
  (h: ∀K':Act→World→Prop,Go.Shut (∀a w,(k<p→S w)→ir P ops Q S p (k+1) a w→K' a w)→if Region.wanted o (yielded ops a.tmps)=true then Oper.wp P o a w K' Q else K' (a.put o.dst undef) w)
  (h2: ∀K':Act→World→Prop,Go.Shut (∀a w,(q<p→S w)→qc P ops Q S p q k a w→K' a w)→if Region.wanted oq (yielded ops a.tmps)=true then Oper.wp P oq a w K' Q else K' (a.put oq.dst undef) w):
  ir P ops Q S p k a w:=by
 have ho:=dO hod;have a0:=dO hodq;have hk:k<ops.size:=(Array.getElem?_eq_some_iff.1 ho).1;unfold ir;rw[show ops.size-k=(ops.size-(k+1))+1 from by omega];refine⟨fun h=>(by rw[hr]at h;cases h),fun i hi=> ?_⟩;rw[hr]at hi;simp only[List.mem_cons,List.not_mem_nil,or_false]at hi;rcases hi with rfl|rfl
 ·exact wpOp_step ho (fun K' hK=>h K' (fun a w hS hW=>hK a w ⟨hS,by rw[fj];exact hW⟩))
 ·exact wpOp_step a0 (fun K' hK=>h2 K' (fun a w hS hW=>hK a w ⟨hS,hW⟩))
theorem kT (n k q:Nat) (h:k≠q):((eT n k).setIfInBounds q true).setIfInBounds k true=(eT n (k+1)).setIfInBounds q true:=by
 rw[Array.setIfInBounds_comm _ _ (Ne.symm h),fj]
theorem vN {k q:Nat} {o:Oper} {rest:List Oper} {a:Act} {w:World} (hod:ops.toList.drop k=o::rest) (hkq:(decide (k<q)&&decide (k+1<ops.size))=true) (hr:Region.ready .any ops ((eT ops.size k).setIfInBounds q true)=[k])
  (h: ∀K':Act→World→Prop,Go.Shut (∀a w,(k<p→S w)→qc P ops Q S p q (k+1) a w→K' a w)→if Region.wanted o (yielded ops a.tmps)=true then Oper.wp P o a w K' Q else K' (a.put o.dst undef) w):qc P ops Q S p q k a w:=by
 have ho:=dO hod;simp only[Bool.and_eq_true,decide_eq_true_eq]at hkq;unfold qc;rw[show ops.size-(k+1)=(ops.size-(k+1+1))+1 from by omega];refine⟨fun h=>(by rw[hr]at h;cases h),fun i hi=> ?_⟩;rw[hr]at hi;simp at hi;subst hi;exact wpOp_step ho (fun K' hK=>h K' (fun a w hS hW=>hK a w ⟨hS,by rw[kT _ _ _ (by omega)];exact hW⟩))
def ve (ops:Array Oper) (p q k:Nat):Bool:=
 decide (k<q)&&decide (k+1<ops.size)&&decide (k<p)&&Region.noSelect ops&&Region.free .any ops ((eT ops.size k).setIfInBounds q true) k&&(Region.ready .any ops ((eT ops.size k).setIfInBounds q true)).contains k&&
 (List.range ops.size).all fun j=>decide (j<p)||match ops[j]? with
  |some oj=>oj.after.any fun e=>Region.binds .any e&&e.on==k
  |none=>true
theorem vO {k q:Nat} {o:Oper} {rest:List Oper} {v:Value} {a:Act} {w:World} (hod:ops.toList.drop k=o::rest) (hc:ve ops p q k=true)
  (hQ: ∀c a w,Q (.panic c) (a.put o.dst v) w→Q (.panic c) a w)
  (hw:Region.wanted o (yielded ops a.tmps)=true) (hS:S w) (hy: ∀w,S w→(execOp a.eval o).run P w= .ok (.value v) w) (h:qc P ops Q S p q (k+1) (a.put o.dst v) w):qc P ops Q S p q k a w:=by
 have ho:=dO hod;unfold ve at hc;simp only[Bool.and_eq_true,decide_eq_true_eq,List.all_eq_true,List.mem_range]at hc;obtain⟨⟨⟨⟨⟨⟨a6,a7⟩,a2⟩,a3⟩,a0⟩,a4⟩,a5⟩:=hc;unfold qc at*;rw[show ops.size-(k+1)=(ops.size-(k+1+1))+1 from by omega];refine kA ho a2 (Region.noSelect_spec a3) ?_ hQ _ _ a w (Region.free_spec ho a0) (by simpa using a4) (Or.inl ⟨hw,hy⟩) hS (by rw[kT _ _ _ (by omega)];exact h);intro j oj hj a8;have a1:j<ops.size:=(Array.getElem?_eq_some_iff.1 hj).1;have:=a5 j a1;rw[hj]at this;simp only[Bool.or_eq_true,decide_eq_true_eq,Array.any_eq_true,Bool.and_eq_true,beq_iff_eq]at this;rcases this with h1| ⟨i,hi,h1,h2⟩
 ·omega
 ·exact⟨oj.after[i],Array.getElem_mem hi,h1,h2⟩
theorem vP {q:Nat} {a:Act} {w:World} (h:ir P ops Q S p (q+1) a w):qc P ops Q S p q q a w:=by
 unfold qc;rw[fj];exact h
def has (n:Nat) (L:List Nat):Array Bool:=((List.range n).map fun i=>L.contains i).toArray
theorem iK (n k:Nat) (L:List Nat):(has n L).setIfInBounds k true=has n (k::L):=by
 unfold has
 apply Array.ext
 ·simp
 ·intro i h1 h2
  by_cases h:k=i
  ·subst h;simp
  ·rw[Array.getElem_setIfInBounds_ne (by simpa using h1) h];have h': ¬i=k:=fun e=>h e.symm
   simp[h']
theorem zY (n:Nat):Array.replicate n false=has n []:=by
 unfold has
 apply Array.ext
 ·simp
 ·intro i h1 h2;simp
def vg (ops:Array Oper) (p:Nat) (L:List Nat) (k:Nat):Bool:=
 decide (k<p)&&Region.noSelect ops&&Region.free .any ops (has ops.size L) k&&(Region.ready .any ops (has ops.size L)).contains k&&
 (List.range ops.size).all fun j=>decide (j<p)||match ops[j]? with
  |some oj=>oj.after.any fun e=>Region.binds .any e&&e.on==k
  |none=>true
def wpP (P:Program) (ops:Array Oper) (Q:Exit→Act→World→Prop) (S:World→Prop) (p:Nat) (L:List Nat) (a:Act) (w:World):Prop:=
 mL P ops Q S p (ops.size-L.length) (has ops.size L) a w
theorem cB {id:Nat} {a:Act} {w:World} (S:World→Prop) (p:Nat) (hm:P.follows .mixedOrders=true) (h:wpP P ops Q S p [] a w.drew):(Code.region id ops true).wp P Q a w:=by
 refine wp_region_any hm (ju (S:=S) (p:=p) _ _ _ _ ?_);rw[zY];exact h
theorem aB {k:Nat} {L:List Nat} {o:Oper} {v:Value} {a:Act} {w:World} (ho:ops[k]?=some o) (hl:L.length<ops.size) (hc:vg ops p L k=true)
  (hQ: ∀c a w,Q (.panic c) (a.put o.dst v) w→Q (.panic c) a w)
  (hw:Region.wanted o (yielded ops a.tmps)=true) (hS:S w) (hy: ∀w,S w→(execOp a.eval o).run P w= .ok (.value v) w) (h:wpP P ops Q S p (k::L) (a.put o.dst v) w):wpP P ops Q S p L a w:=by
 unfold vg at hc;simp only[Bool.and_eq_true,decide_eq_true_eq,List.all_eq_true,List.mem_range]at hc;obtain⟨⟨⟨⟨a2,a3⟩,a0⟩,a4⟩,a5⟩:=hc;unfold wpP at*;rw[show ops.size-L.length=(ops.size-(k::L).length)+1 from by simp;omega];refine kA ho a2 (Region.noSelect_spec a3) ?_ hQ _ _ a w (Region.free_spec ho a0) (by simpa using a4) (Or.inl ⟨hw,hy⟩) hS (by rw[iK];exact h);intro j oj hj a6;have a1:j<ops.size:=(Array.getElem?_eq_some_iff.1 hj).1;have:=a5 j a1;rw[hj]at this;simp only[Bool.or_eq_true,decide_eq_true_eq,Array.any_eq_true,Bool.and_eq_true,beq_iff_eq]at this;rcases this with h1| ⟨i,hi,h1,h2⟩
 ·omega
 ·exact⟨oj.after[i],Array.getElem_mem hi,h1,h2⟩
theorem aE {k:Nat} {L:List Nat} {o:Oper} {a:Act} {w:World} (ho:ops[k]?=some o) (hl:L.length<ops.size) (hr:Region.ready .any ops (has ops.size L)=[k])
  (h: ∀K':Act→World→Prop,Go.Shut (∀a w,(k<p→S w)→wpP P ops Q S p (k::L) a w→K' a w)→if Region.wanted o (yielded ops a.tmps)=true then Oper.wp P o a w K' Q else K' (a.put o.dst undef) w):wpP P ops Q S p L a w:=by
 unfold wpP;rw[show ops.size-L.length=(ops.size-(k::L).length)+1 from by simp;omega];refine⟨fun h=>(by rw[hr]at h;cases h),fun i hi=> ?_⟩;rw[hr]at hi;simp at hi;subst hi;exact wpOp_step ho (fun K' hK=>h K' (fun a w hS hW=>hK a w ⟨hS,by rw[iK];exact hW⟩))
theorem iL {k1 k2:Nat} {L:List Nat} {o1 o2:Oper} {a:Act} {w:World} (ho1:ops[k1]?=some o1) (ho2:ops[k2]?=some o2) (hl:L.length<ops.size) (hr:Region.ready .any ops (has ops.size L)=[k1,k2])
  (h1: ∀K':Act→World→Prop,Go.Shut (∀a w,(k1<p→S w)→wpP P ops Q S p (k1::L) a w→K' a w)→if Region.wanted o1 (yielded ops a.tmps)=true then Oper.wp P o1 a w K' Q else K' (a.put o1.dst undef) w)
  (h2: ∀K':Act→World→Prop,Go.Shut (∀a w,(k2<p→S w)→wpP P ops Q S p (k2::L) a w→K' a w)→if Region.wanted o2 (yielded ops a.tmps)=true then Oper.wp P o2 a w K' Q else K' (a.put o2.dst undef) w):wpP P ops Q S p L a w:=by
 unfold wpP;rw[show ops.size-L.length=(ops.size-(L.length+1))+1 from by omega];refine⟨fun h=>(by rw[hr]at h;cases h),fun i hi=> ?_⟩;rw[hr]at hi;simp only[List.mem_cons,List.not_mem_nil,or_false]at hi;rcases hi with rfl|rfl
 ·exact wpOp_step ho1 (fun K' hK=>h1 K' (fun a w hS hW=>hK a w ⟨hS,by rw[iK];exact hW⟩))
 ·exact wpOp_step ho2 (fun K' hK=>h2 K' (fun a w hS hW=>hK a w ⟨hS,by rw[iK];exact hW⟩))
theorem vQ {k1 k2 k3:Nat} {L:List Nat} {o1 o2 o3:Oper} {a:Act} {w:World} (ho1:ops[k1]?=some o1) (ho2:ops[k2]?=some o2) (ho3:ops[k3]?=some o3) (hl:L.length<ops.size) (hr:Region.ready .any ops (has ops.size L)=[k1,k2,k3])
  (h1: ∀K':Act→World→Prop,Go.Shut (∀a w,(k1<p→S w)→wpP P ops Q S p (k1::L) a w→K' a w)→if Region.wanted o1 (yielded ops a.tmps)=true then Oper.wp P o1 a w K' Q else K' (a.put o1.dst undef) w)
  (h2: ∀K':Act→World→Prop,Go.Shut (∀a w,(k2<p→S w)→wpP P ops Q S p (k2::L) a w→K' a w)→if Region.wanted o2 (yielded ops a.tmps)=true then Oper.wp P o2 a w K' Q else K' (a.put o2.dst undef) w)
  (h3: ∀K':Act→World→Prop,Go.Shut (∀a w,(k3<p→S w)→wpP P ops Q S p (k3::L) a w→K' a w)→if Region.wanted o3 (yielded ops a.tmps)=true then Oper.wp P o3 a w K' Q else K' (a.put o3.dst undef) w):wpP P ops Q S p L a w:=by
 unfold wpP;rw[show ops.size-L.length=(ops.size-(L.length+1))+1 from by omega];refine⟨fun h=>(by rw[hr]at h;cases h),fun i hi=> ?_⟩;rw[hr]at hi;simp only[List.mem_cons,List.not_mem_nil,or_false]at hi;rcases hi with rfl|rfl|rfl
 ·exact wpOp_step ho1 (fun K' hK=>h1 K' (fun a w hS hW=>hK a w ⟨hS,by rw[iK];exact hW⟩))
 ·exact wpOp_step ho2 (fun K' hK=>h2 K' (fun a w hS hW=>hK a w ⟨hS,by rw[iK];exact hW⟩))
 ·exact wpOp_step ho3 (fun K' hK=>h3 K' (fun a w hS hW=>hK a w ⟨hS,by rw[iK];exact hW⟩))
theorem ck {L:List Nat} {a:Act} {w:World} (hl:L.length=ops.size) (hr:Region.ready .any ops (has ops.size L)=[]) (h:Q .normal a w):wpP P ops Q S p L a w:=by
 unfold wpP;rw[hl,Nat.sub_self];exact⟨hr,h⟩
theorem rl {i:Nat} {oi:Oper} {v:Value} (T:Nat→Prop) (hi:ops[i]?=some oi) (hip:i<p) (hsel: ∀(j:Nat) (o:Oper) cs b,ops[j]?=some o→o.op≠ .select cs b)
  (hT1: ∀j oj,ops[j]?=some oj→p≤j→T j) (hT2: ∀j oj,ops[j]?=some oj→T j→ ∃e∈oj.after,Region.binds .any e=true∧(e.on=i∨T e.on))
  (hQ: ∀c a w,Q (.panic c) (a.put oi.dst v) w→Q (.panic c) a w):
  ∀(fuel:Nat) (listed:Array Bool) (a:Act) (w:World),(∀j,T j→listed.getD j false=false)→
   (∀j oj,ops[j]?=some oj→j≠i→listed.getD j true=false→(∀e∈oj.after,Region.binds .any e=true→e.on≠i)→oi.apart ops oj=true)→
   i∈Region.ready .any ops listed→YieldsIf P ops S oi v a→S w→
   mL P ops Q S p fuel (listed.setIfInBounds i true) (a.put oi.dst v) w→mL P ops Q S p (fuel+1) listed a w:=by
 intro fuel
 induction fuel with
 |zero=>
  intro listed a w _ _ hr hy hS H;refine⟨fun h=>(by rw[h]at hr;cases hr),fun j hj=> ?_⟩
  by_cases hji:j=i
  ·subst hji;exact hy.wpOp hi hS ⟨fun _=>hS,H⟩
  ·have:=ready_mono hj hji;rw[H.1]at this
   cases this
 |succ fuel ih=>
  intro listed a w a8 a0 hr hy hS H;refine⟨fun h=>(by rw[h]at hr;cases hr),fun j hj=> ?_⟩
  by_cases hji:j=i
  ·subst hji;exact hy.wpOp hi hS ⟨fun _=>hS,H⟩
  ·have h1:=H.2 j (ready_mono hj hji);obtain⟨a3,oj,a5,a2⟩:=mem_ready.1 hj
   have a4: ∀e∈oj.after,Region.binds .any e=true→e.on≠i:=fun e he hb heq=>by
    have h1:=a2 e he hb;have h0:=(mem_ready.1 hr).1;rw[heq]at h1;rcases Nat.lt_or_ge i listed.size with h'|h'
    ·simp[h']at h0 h1;rw[h0]at h1;cases h1
    ·simp[Array.getElem?_eq_none h']at h1
   have b0: ¬T j:=fun hT=>by
    obtain⟨e,he,hb,ho⟩:=hT2 j oj a5 hT;rcases ho with ho|ho
    ·exact a4 e he hb ho
    ·have h1:=a2 e he hb;have h2:=a8 e.on ho;rw[h2]at h1
     cases h1
   have b1:j<p:=by
    rcases Nat.lt_or_ge j p with h|h
    ·exact h
    ·exact absurd (hT1 j oj a5 h) b0
   have h2:=wpOp_putIf a5 (a0 j oj a5 hji a3 a4) (fun cs b=>hsel i oi cs b hi) (fun cs b=>hsel j oj cs b a5) hQ hy h1
   have a1: ∀k ok,ops[k]?=some ok→k≠i→(listed.setIfInBounds j true).getD k true=false→
     (∀e∈ok.after,Region.binds .any e=true→e.on≠i)→oi.apart ops ok=true:=fun k ok hk hki hun hno=>by
    refine a0 k ok hk hki ?_ hno
    by_cases a6:j=k
    ·subst a6;exact a3
    ·rw[getD_set_ne true a6]at hun;exact hun
   have a7: ∀k,T k→(listed.setIfInBounds j true).getD k false=false:=fun k hk=>by
    have a6:j≠k:=fun e=>b0 (e▸hk)
    have:=a8 k hk;simpa[Array.getElem?_setIfInBounds_ne a6]using this
   refine wpOp_mono (fun a' w' h3=>⟨h3.2.1,ih (listed.setIfInBounds j true) a' w' a7 a1 (ready_mono hr (Ne.symm hji)) h3.1 (h3.2.1 b1) ?_⟩) h2;rw[Array.setIfInBounds_comm _ _ hji];exact h3.2.2
def vh (ops:Array Oper) (k:Nat):List Nat:=(List.range ops.size).foldl (fun L j=>match ops[j]? with
 |some oj=>if oj.after.any (fun e=>Region.binds .any e&&(e.on==k||L.contains e.on))then j::L else L
 |none=>L) []
def vj (ops:Array Oper) (p k:Nat):Bool:=
 decide (k<p)&&Region.noSelect ops&&Region.free .any ops (eT ops.size k) k&&(Region.ready .any ops (eT ops.size k)).contains k&&
 ((List.range ops.size).all fun j=>decide (j<p)||(vh ops k).contains j)&&
 (vh ops k).all fun j=>decide (k≤j)&&match ops[j]? with
  |some oj=>oj.after.any fun e=>Region.binds .any e&&(e.on==k||(vh ops k).contains e.on)
  |none=>false
theorem dB {k:Nat} {o:Oper} {rest:List Oper} {v:Value} {a:Act} {w:World} (hod:ops.toList.drop k=o::rest) (hc:vj ops p k=true)
  (hQ: ∀c a w,Q (.panic c) (a.put o.dst v) w→Q (.panic c) a w)
  (hw:Region.wanted o (yielded ops a.tmps)=true) (hS:S w) (hy: ∀w,S w→(execOp a.eval o).run P w= .ok (.value v) w) (h:ir P ops Q S p (k+1) (a.put o.dst v) w):ir P ops Q S p k a w:=by
 have ho:=dO hod;unfold vj at hc;generalize vh ops k=L at hc;simp only[Bool.and_eq_true,decide_eq_true_eq,List.all_eq_true,List.mem_range]at hc;obtain⟨⟨⟨⟨⟨a2,a3⟩,a0⟩,a4⟩,a5⟩,hL⟩:=hc;have hk:k<ops.size:=(Array.getElem?_eq_some_iff.1 ho).1;unfold ir at*;rw[show ops.size-k=(ops.size-(k+1))+1 from by omega];refine rl (fun j=>j∈L) ho a2 (Region.noSelect_spec a3) ?_ ?_ hQ _ _ a w ?_ (Region.free_spec ho a0) (by simpa using a4) (Or.inl ⟨hw,hy⟩) hS (by rw[fj];exact h)
 ·intro j oj hj a6;have a1:j<ops.size:=(Array.getElem?_eq_some_iff.1 hj).1;have:=a5 j a1;simp only[Bool.or_eq_true,decide_eq_true_eq]at this;rcases this with h1|h1
  ·omega
  ·simpa using h1
 ·intro j oj hj hT;have:=(hL j hT).2;rw[hj]at this;simp only[Array.any_eq_true,Bool.and_eq_true,Bool.or_eq_true,beq_iff_eq]at this;obtain⟨i,hi,h1,h2⟩:=this;exact⟨oj.after[i],Array.getElem_mem hi,h1,h2.imp_right (fun h=>by simpa using h)⟩
 ·intro j hT;have:=(hL j hT).1;rcases Nat.lt_or_ge j ops.size with hj|hj
  ·simp[eT,hj];omega
  ·simp[eT,hj]
theorem rm {i:Nat} {oi:Oper} {v:Value} (hi:ops[i]?=some oi) (hpi:p≤i) (hsel: ∀(j:Nat) (o:Oper) cs b,ops[j]?=some o→o.op≠ .select cs b)
  (hQ: ∀c a w,Q (.panic c) (a.put oi.dst v) w→Q (.panic c) a w):
  ∀(fuel:Nat) (listed:Array Bool) (a:Act) (w:World),
   (∀j oj,ops[j]?=some oj→j≠i→listed.getD j true=false→(∀e∈oj.after,Region.binds .any e=true→e.on≠i)→oi.apart ops oj=true)→
   i∈Region.ready .any ops listed→YieldsIf P ops (fun _=>True) oi v a→
   mL P ops Q S p fuel (listed.setIfInBounds i true) (a.put oi.dst v) w→mL P ops Q S p (fuel+1) listed a w:=by
 intro fuel
 induction fuel with
 |zero=>
  intro listed a w _ hr hy H;refine⟨fun h=>(by rw[h]at hr;cases hr),fun j hj=> ?_⟩
  by_cases hji:j=i
  ·subst hji;exact hy.wpOp hi trivial ⟨fun h=>by omega,H⟩
  ·have:=ready_mono hj hji;rw[H.1]at this
   cases this
 |succ fuel ih=>
  intro listed a w a0 hr hy H;refine⟨fun h=>(by rw[h]at hr;cases hr),fun j hj=> ?_⟩
  by_cases hji:j=i
  ·subst hji;exact hy.wpOp hi trivial ⟨fun h=>by omega,H⟩
  ·have h1:=H.2 j (ready_mono hj hji);obtain⟨a2,oj,a5,a3⟩:=mem_ready.1 hj
   have a4: ∀e∈oj.after,Region.binds .any e=true→e.on≠i:=fun e he hb heq=>by
    have h1:=a3 e he hb;have h0:=(mem_ready.1 hr).1;rw[heq]at h1;rcases Nat.lt_or_ge i listed.size with h'|h'
    ·simp[h']at h0 h1;rw[h0]at h1;cases h1
    ·simp[Array.getElem?_eq_none h']at h1
   have h2:=wpOp_putIf a5 (a0 j oj a5 hji a2 a4) (fun cs b=>hsel i oi cs b hi) (fun cs b=>hsel j oj cs b a5) hQ hy h1
   have a1: ∀k ok,ops[k]?=some ok→k≠i→(listed.setIfInBounds j true).getD k true=false→
     (∀e∈ok.after,Region.binds .any e=true→e.on≠i)→oi.apart ops ok=true:=fun k ok hk hki hun hno=>by
    refine a0 k ok hk hki ?_ hno
    by_cases hjk:j=k
    ·subst hjk;exact a2
    ·rw[getD_set_ne true hjk]at hun;exact hun
   refine wpOp_mono (fun a' w' h3=>⟨h3.2.1,ih (listed.setIfInBounds j true) a' w' a1 (ready_mono hr (Ne.symm hji)) h3.1 ?_⟩) h2;rw[Array.setIfInBounds_comm _ _ hji];exact h3.2.2
def vk (ops:Array Oper) (p k:Nat):Bool:=
 decide (p≤k)&&decide (k<ops.size)&&Region.noSelect ops&&Region.free .any ops (eT ops.size k) k&&(Region.ready .any ops (eT ops.size k)).contains k
theorem fU {k:Nat} {o:Oper} {rest:List Oper} {v:Value} {a:Act} {w:World} (hod:ops.toList.drop k=o::rest) (hc:vk ops p k=true)
  (hQ: ∀c a w,Q (.panic c) (a.put o.dst v) w→Q (.panic c) a w)
  (hw:Region.wanted o (yielded ops a.tmps)=true) (hy: ∀w,(execOp a.eval o).run P w= .ok (.value v) w) (h:ir P ops Q S p (k+1) (a.put o.dst v) w):ir P ops Q S p k a w:=by
 have ho:=dO hod;unfold vk at hc;simp only[Bool.and_eq_true,decide_eq_true_eq]at hc;obtain⟨⟨⟨⟨a1,hk⟩,a2⟩,a0⟩,a3⟩:=hc;unfold ir at*;rw[show ops.size-k=(ops.size-(k+1))+1 from by omega];exact rm ho a1 (Region.noSelect_spec a2) hQ _ _ a w (Region.free_spec ho a0) (by simpa using a3) (Or.inl ⟨hw,fun w _=>hy w⟩) (by rw[fj];exact h)
end
end
end Go.Proofs.YtpfkkmacakjmbaaGreatDoor
