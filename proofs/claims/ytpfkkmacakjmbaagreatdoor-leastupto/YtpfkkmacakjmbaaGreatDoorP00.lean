import Derived.OrdersHeld
import Derived.Deep.RegionHeld3
import Derived.Deep.AppendLies
import Derived.Test.YtpfkkmacakjmbaaGreatDoorProg
import Derived.WalkKit
import Derived.WalkSpells
import Derived.Deep.QuietTactic
import Derived.BigQuiet
import Derived.Deep.LoopGhost
import Derived.Deep.DrawnRows
set_option maxRecDepth 100000
set_option maxHeartbeats 6400000
namespace Go.Proofs.YtpfkkmacakjmbaaGreatDoor
namespace Sp
structure Cls where
 par:Int
 fields:List UInt8
structure Sig where
 arg:UInt8
 ret:UInt8
structure Ins where
 op:UInt8
 a:Nat
 b:Nat
 pos:Nat
structure Bod where
 cls:Int
 meth:Int
 locals:List UInt8
 code:List Ins
structure Img where
 classes:List Cls
 sigs:List Sig
 bodies:List Bod
def pk (s:ByteArray) (i:Nat):UInt8:=if h:i<s.size then s[i]else 0
def aI (n:Nat) (c:UInt8):Bool:=decide (65≤c.toNat)&&decide (c.toNat<65+n)
def dM (n:Nat) (c:UInt8):Bool:=decide (48≤c.toNat)&&decide (c.toNat≤57)&&decide (c.toNat<48+n)
def ce (n:Nat) (c:UInt8):Bool:=decide (c.toNat=105)||aI n c
def tys (s:ByteArray) (n:Nat) (e:UInt8):Nat→List UInt8→Nat→Except Nat (List UInt8×Nat)
 |0,t,i=>if pk s i=e then .ok (t,i+1)else .error i
 |k+1,t,i=>if pk s i=e then .ok (t,i+1)else if ce n (pk s i)=true then tys s n e k (t++ [pk s i]) (i+1)else .error i
def lm (s:ByteArray) (c:UInt8) (i:Nat):Except Nat Nat:=if pk s i=c then .ok (i+1)else .error i
def dH (s:ByteArray) (n i:Nat):Except Nat (Nat×Nat):=if aI n (pk s i)=true then .ok ((pk s i).toNat-65,i+1)else .error i
def de (s:ByteArray) (n i:Nat):Except Nat (Nat×Nat):=if dM n (pk s i)=true then .ok ((pk s i).toNat-48,i+1)else .error i
def tyP (s:ByteArray) (n i:Nat):Except Nat (UInt8×Nat):=if ce n (pk s i)=true then .ok (pk s i,i+1)else .error i
def inh (cs:List Cls) (p:Int):List UInt8:=if p<0 then []else(cs[p.toNat]?.map (·.fields)).getD []
def BB (s:ByteArray) (n i:Nat):Except Nat (Int×Nat):=
 if(pk s i).toNat=45 then .ok (-1,i+1)else
 match dH s n i with
 | .ok (p,j)=> .ok ((p:Int),j)
 | .error j=> .error j
def di (s:ByteArray):Nat→List Cls→Nat→Except Nat (List Cls×Nat)
 |0,cs,i=>if(pk s i).toNat=59 then .ok (cs,i+1)else .error i
 |k+1,cs,i=>if(pk s i).toNat=59 then .ok (cs,i+1)else
  match BB s cs.length i with
  | .error j=> .error j
  | .ok (p,j)=>
   match tys s (cs.length+1) 46 2 [] j with
   | .error l=> .error l
   | .ok (own,l)=>di s k (cs++ [⟨p,inh cs p++own⟩]) l
def eF (s:ByteArray) (n:Nat):Nat→List Sig→Nat→Except Nat (List Sig×Nat)
 |0,gs,i=>if(pk s i).toNat=59 then .ok (gs,i+1)else .error i
 |k+1,gs,i=>if(pk s i).toNat=59 then .ok (gs,i+1)else
  match tyP s n i with
  | .error j=> .error j
  | .ok (a,j)=>
   match tyP s n j with
   | .error l=> .error l
   | .ok (b,l)=>
    match lm s 46 l with
    | .error m=> .error m
    | .ok m=>eF s n k (gs++ [⟨a,b⟩]) m
def bU (cs:List Cls) (a:Nat):Nat:=((cs[a]?.map (·.fields)).getD []).length
def aY (s:ByteArray) (cs:List Cls) (ns nl:Nat) (c i:Nat):Except Nat (Nat×Nat×Nat):=
 if c=108∨c=115 then
  match de s nl i with
  | .ok (b,j)=> .ok (0,b,j)
  | .error j=> .error j
 else if c=107 then
  match de s 10 i with
  | .ok (b,j)=> .ok (0,b,j)
  | .error j=> .error j
 else if c=110∨c=120 then
  match dH s cs.length i with
  | .ok (a,j)=> .ok (a,0,j)
  | .error j=> .error j
 else if c=103∨c=112 then
  match dH s cs.length i with
  | .error j=> .error j
  | .ok (a,j)=>
   match de s (bU cs a) j with
   | .ok (b,l)=> .ok (a,b,l)
   | .error l=> .error l
 else if c=99 then
  match dH s cs.length i with
  | .error j=> .error j
  | .ok (a,j)=>
   match de s ns j with
   | .ok (b,l)=> .ok (a,b,l)
   | .error l=> .error l
 else if c=106∨c=102 then
  match de s 10 i with
  | .error j=> .error j
  | .ok (a,j)=>
   match de s 10 j with
   | .ok (b,l)=> .ok (0,10*a+b,l)
   | .error l=> .error l
 else .ok (0,0,i)
def bZ:List Nat:=[107,114,119,108,115,43,45,42,47,60,61,101,110,122,103,112,99,120,100,106,102,116]
def j6 (s:ByteArray) (cs:List Cls) (ns nl i:Nat):Except Nat (Ins×Nat):=
 if bZ.contains (pk s i).toNat=true then
  match aY s cs ns nl (pk s i).toNat (i+1)with
  | .ok (a,b,j)=> .ok (⟨pk s i,a,b,i⟩,j)
  | .error j=> .error j
 else .error i
def cD (s:ByteArray) (cs:List Cls) (ns nl:Nat):Nat→List Ins→Nat→Except Nat (List Ins×Nat)
 |0,is,i=>if(pk s i).toNat=46∧is≠ []then .ok (is,i+1)else .error i
 |k+1,is,i=>if(pk s i).toNat=46∧is≠ []then .ok (is,i+1)else
  match j6 s cs ns nl i with
  | .error j=> .error j
  | .ok (x,j)=>cD s cs ns nl k (is++ [x]) j
def gL (bs:List Bod) (x m:Int):Option Nat:=bs.findIdx? fun b=>b.cls==x&&b.meth==m
def gM (gs:List Sig) (m:Nat):UInt8:=(gs[m]?.map (·.arg)).getD 0
def eG (s:ByteArray) (cs:List Cls) (gs:List Sig):Nat→List Bod→Nat→Except Nat (List Bod×Nat)
 |0,bs,i=>if(pk s i).toNat=59 then .ok (bs,i+1)else .error i
 |k+1,bs,i=>if(pk s i).toNat=59 then .ok (bs,i+1)else
  match dH s cs.length i with
  | .error j=> .error j
  | .ok (x,j)=>
   match de s gs.length j with
   | .error l=> .error l
   | .ok (m,l)=>
    if(gL bs x m).isSome=true then .error j else
    match tys s cs.length 58 3 [] l with
    | .error p=> .error p
    | .ok (t,p)=>
     match cD s cs gs.length (t.length+2) 100 [] p with
     | .error q=> .error q
     | .ok (is,q)=>eG s cs gs k (bs++ [⟨x,m,UInt8.ofNat (65+x)::gM gs m::t,is⟩]) q
def dp (s:ByteArray):Except Nat Img:=
 match di s 4 [] 0 with
 | .error i=> .error i
 | .ok (cs,i)=>
  match eF s cs.length 3 [] i with
  | .error j=> .error j
  | .ok (gs,j)=>
   match eG s cs gs 6 [] j with
   | .error l=> .error l
   | .ok (bs,l)=>
    match tys s cs.length 58 3 [] l with
    | .error p=> .error p
    | .ok (t,p)=>
     match cD s cs gs.length t.length 100 [] p with
     | .error q=> .error q
     | .ok (is,q)=>if q<s.size then .error q else .ok ⟨cs,gs,bs++ [⟨-1,-1,t,is⟩]⟩
theorem fZ {s:ByteArray} {n:Nat} {e:UInt8}: ∀{k:Nat} {t:List UInt8} {i:Nat} {r:List UInt8} {j:Nat},tys s n e k t i= .ok (r,j)→r.length≤k+t.length:=by
 intro k
 induction k with
 |zero=>
  intro t i r j h;unfold tys at h
  split at h
  ·cases h;omega
  ·cases h
 |succ k ih=>
  intro t i r j h;unfold tys at h
  split at h
  ·cases h;omega
  ·split at h
   ·have:=ih h;simp at this;omega
   ·cases h
theorem j8 {s:ByteArray} {n:Nat} {e:UInt8}: ∀{k:Nat} {t:List UInt8} {i:Nat} {r:List UInt8} {j:Nat},(∀c∈t,ce n c=true)→tys s n e k t i= .ok (r,j)→ ∀c∈r,ce n c=true:=by
 intro k
 induction k with
 |zero=>
  intro t i r j ht h;unfold tys at h
  split at h
  ·cases h;exact ht
  ·cases h
 |succ k ih=>
  intro t i r j ht h;unfold tys at h
  split at h
  ·cases h;exact ht
  ·split at h
   ·refine ih ?_ h;intro c hc;rcases List.mem_append.1 hc with hc|hc
    ·exact ht c hc
    ·simp at hc;subst hc;assumption
   ·cases h
def WfC (cs:List Cls):Prop:= ∀(j:Nat) (c:Cls),cs[j]?=some c→ -1≤c.par∧c.par<j∧c.fields.length≤2*(j+1)∧ ∀t∈c.fields,ce (j+1) t=true
theorem eH {n m:Nat} {c:UInt8} (h:n≤m) (hc:ce n c=true):ce m c=true:=by
 simp only[ce,aI,Bool.or_eq_true,Bool.and_eq_true,decide_eq_true_eq]at*;omega
theorem oO {s:ByteArray} {n i:Nat} {p:Int} {j:Nat} (h:BB s n i= .ok (p,j)):j=i+1∧((p= -1∧(pk s i).toNat=45)∨((pk s i).toNat≠45∧aI n (pk s i)=true∧p=(((pk s i).toNat-65:Nat):Int))):=by
 unfold BB dH at h
 split at h
 ·cases h;exact⟨rfl,Or.inl ⟨rfl,by assumption⟩⟩
 ·split at h
  ·rename_i hh
   split at hh
   ·cases hh;cases h;exact⟨rfl,Or.inr ⟨by assumption,by assumption,rfl⟩⟩
   ·cases hh
  ·cases h
theorem wF {cs:List Cls} {n:Nat} {c:Cls} (h:cs[n]?=some c):inh cs (n:Int)=c.fields:=by
 unfold inh;rw[if_neg (by omega),Int.toNat_natCast,h]
 rfl
theorem yM {cs:List Cls} (h:WfC cs) (p:Int):(inh cs p).length≤2*cs.length:=by
 unfold inh
 split
 ·simp
 ·cases hc:cs[p.toNat]? with
  |none=>simp
  |some c=>
   have h1:=(List.getElem?_eq_some_iff.1 hc).1;have h2:=(h _ _ hc).2.2.1;simp;omega
theorem j9 {s:ByteArray} {cs:List Cls} {p:Int} {i j l:Nat} {own:List UInt8} (h:WfC cs) (hp:BB s cs.length i= .ok (p,j)) (ho:tys s (cs.length+1) 46 2 [] j= .ok (own,l)):
  WfC (cs++ [⟨p,inh cs p++own⟩]):=by
 intro k c hc;rcases Nat.lt_or_ge k cs.length with hk|hk
 ·rw[List.getElem?_append_left hk]at hc;exact h k c hc
 ·rw[List.getElem?_append_right hk]at hc
  have a0:k-cs.length=0:=by
   have:=(List.getElem?_eq_some_iff.1 hc).1;simp at this;omega
  have a1:k=cs.length:=by omega
  rw[a0]at hc;simp at hc;subst hc;subst a1;obtain⟨_,hp⟩:=oO hp;have h1:=yM h p;have h2:=fZ ho;refine⟨?_,?_,?_,?_⟩
  ·rcases hp with⟨rfl,_⟩ | ⟨_,_,rfl⟩<;>simp<;>omega
  ·rcases hp with⟨rfl,_⟩ | ⟨_,hl,rfl⟩
   ·simp;omega
   ·simp[aI]at hl;simp;omega
  ·simp at h1 h2⊢;omega
  ·intro t ht;simp at ht;rcases ht with ht|ht
   ·unfold inh at ht
    split at ht
    ·simp at ht
    ·cases hc:cs[p.toNat]? with
     |none=>simp[hc]at ht
     |some c=>
      simp[hc]at ht;have h3:=(List.getElem?_eq_some_iff.1 hc).1;exact eH (by omega) ((h _ _ hc).2.2.2 t ht)
   ·exact j8 (by simp) ho t ht
theorem clsP_wf' {s:ByteArray}: ∀{k:Nat} {cs:List Cls} {i:Nat} {r:List Cls} {j:Nat},WfC cs→di s k cs i= .ok (r,j)→WfC r∧r.length≤k+cs.length:=by
 intro k
 induction k with
 |zero=>
  intro cs i r j hw h;unfold di at h
  split at h
  ·cases h;exact⟨hw,by omega⟩
  ·cases h
 |succ k ih=>
  intro cs i r j hw h;unfold di at h
  split at h
  ·cases h;exact⟨hw,by omega⟩
  ·split at h
   ·cases h
   ·rename_i p l hp
    split at h
    ·cases h
    ·rename_i own m ho
     have:=ih (j9 hw hp ho) h;simp at this;exact⟨this.1,by omega⟩
theorem oP {s:ByteArray} {i:Nat} {r:List Cls} {j:Nat} (h:di s 4 [] i= .ok (r,j)):WfC r∧r.length≤4:=by
 have:=clsP_wf' (fun j c h=>by simp at h) h;simpa using this
theorem mf {s:ByteArray} {n:Nat}: ∀{k:Nat} {gs:List Sig} {i:Nat} {r:List Sig} {j:Nat},eF s n k gs i= .ok (r,j)→r.length≤k+gs.length:=by
 intro k
 induction k with
 |zero=>
  intro gs i r j h;unfold eF at h
  split at h
  ·cases h;omega
  ·cases h
 |succ k ih=>
  intro gs i r j h;unfold eF at h
  split at h
  ·cases h;omega
  ·split at h
   ·cases h
   ·split at h
    ·cases h
    ·split at h
     ·cases h
     ·have:=ih h;simp at this;omega
def eI (bs:List Bod) (x m:Int):Int:=match gL bs x m with
 |some k=>k
 |none=> -1
def bV (cs:List Cls) (x:Int):Int:=(cs[x.toNat]?.map (·.par)).getD (-1)
def cq (cs:List Cls) (bs:List Bod) (m:Int):Nat→Int→Int
 |0,_=> -1
 |f+1,x=>if x<0 then-1 else if 0≤eI bs x m then eI bs x m else cq cs bs m f (bV cs x)
def cw (cs:List Cls) (bs:List Bod) (n:Nat) (x:Ins):Bool:=
 (decide (x.op.toNat=99)&&decide (cq cs bs x.b 5 x.a<0))||((decide (x.op.toNat=106)||decide (x.op.toNat=102))&&decide (n≤x.b))
def unl (cs:List Cls) (bs:List Bod) (c:List Ins):Option Nat:=(c.find? (cw cs bs c.length)).map (·.pos)
def da (s:ByteArray):Except (Nat×Nat) Img:=
 if 2000<s.size then .error (1,0)else
 match dp s with
 | .error j=> .error (2,j)
 | .ok im=>
  match im.bodies.findSome? (fun b=>unl im.classes im.bodies b.code)with
  |some p=> .error (3,p)
  |none=> .ok im
structure WfX (cs:List Cls) (ns nl:Nat) (x:Ins):Prop where
 op:bZ.contains x.op.toNat=true
 pos:x.pos≤2000
 cls:x.op.toNat=110∨x.op.toNat=120∨x.op.toNat=103∨x.op.toNat=112∨x.op.toNat=99→x.a<cs.length
 fld:x.op.toNat=103∨x.op.toNat=112→x.b<bU cs x.a
 sig:x.op.toNat=99→x.b<ns
 loc:x.op.toNat=108∨x.op.toNat=115→x.b<nl
 num:x.b<100
structure WfB (cs:List Cls) (gs:List Sig) (b:Bod):Prop where
 code: ∀x∈b.code,WfX cs gs.length b.locals.length x
 len:0<b.code.length∧b.code.length≤100
 loc:b.locals.length≤5∧ ∀t∈b.locals,ce cs.length t=true
 cls:(b.cls= -1∧b.meth= -1)∨(0≤b.cls∧b.cls<cs.length∧0≤b.meth∧b.meth<gs.length)
structure WfI (im:Img):Prop where
 cls:WfC im.classes
 nc:im.classes.length≤4
 ns:im.sigs.length≤3
 sig: ∀g∈im.sigs,ce im.classes.length g.arg=true∧ce im.classes.length g.ret=true
 bod: ∀b∈im.bodies,WfB im.classes im.sigs b
 nb:im.bodies.length≤7
theorem fg {s:ByteArray} {i:Nat} (h:0<(pk s i).toNat):i<s.size:=by
 unfold pk at h
 split at h
 ·assumption
 ·simp at h
theorem ed {s:ByteArray} {n i d j:Nat} (h:de s n i= .ok (d,j)):d<n∧d<10:=by
 unfold de at h
 split at h
 ·rename_i hd
  cases h
  simp[dM]at hd;omega
 ·cases h
theorem jl {s:ByteArray} {n i d j:Nat} (h:dH s n i= .ok (d,j)):d<n:=by
 unfold dH at h
 split at h
 ·rename_i hd
  cases h
  simp[aI]at hd;omega
 ·cases h
theorem yN {s:ByteArray} {cs:List Cls} {ns nl i:Nat} {x:Ins} {j:Nat} (hs:s.size≤2000) (h:j6 s cs ns nl i= .ok (x,j)):WfX cs ns nl x:=by
 unfold j6 at h
 split at h
 ·rename_i hl
  split at h
  ·rename_i a b l ho
   cases h
   have hp:i<s.size:=fg (by
    rcases Nat.eq_zero_or_pos (pk s i).toNat with h|h
    ·rw[h]at hl;exact absurd hl (by decide)
    ·exact h)
   refine⟨hl,by simp;omega,?_,?_,?_,?_,?_⟩
   all_goals simp only
   all_goals
    unfold aY at ho
    repeat' split at ho
   all_goals first
    | (cases ho;done)
    |skip
   all_goals (intros;first|omega|skip)
   all_goals (cases ho;first|omega| (have:=ed ‹_›;omega) | (have:=jl ‹_›;omega) | (have h1:=ed ‹de s 10 (i+1)=_›;have h2:=ed ‹de s 10 _=Except.ok (_,j)›;omega))
  ·cases h
 ·cases h
theorem qn {s:ByteArray} {cs:List Cls} {ns nl:Nat} (hs:s.size≤2000): ∀{k:Nat} {is:List Ins} {i:Nat} {r:List Ins} {j:Nat},(∀x∈is,WfX cs ns nl x)→cD s cs ns nl k is i= .ok (r,j)→(∀x∈r,WfX cs ns nl x)∧0<r.length∧r.length≤k+is.length:=by
 intro k
 induction k with
 |zero=>
  intro is i r j hw h;unfold cD at h
  split at h
  ·rename_i hc;cases h;exact⟨hw,List.length_pos_iff.2 hc.2,by omega⟩
  ·cases h
 |succ k ih=>
  intro is i r j hw h;unfold cD at h
  split at h
  ·rename_i hc;cases h;exact⟨hw,List.length_pos_iff.2 hc.2,by omega⟩
  ·split at h
   ·cases h
   ·rename_i x l hx
    have:=ih (fun y hy=>by
     rcases List.mem_append.1 hy with hy|hy
     ·exact hw y hy
     ·simp at hy;subst hy;exact yN hs hx) h
    simp at this;exact⟨this.1,this.2.1,by omega⟩
theorem qo {s:ByteArray} {n:Nat}: ∀{k:Nat} {gs:List Sig} {i:Nat} {r:List Sig} {j:Nat},(∀g∈gs,ce n g.arg=true∧ce n g.ret=true)→eF s n k gs i= .ok (r,j)→ ∀g∈r,ce n g.arg=true∧ce n g.ret=true:=by
 intro k
 induction k with
 |zero=>
  intro gs i r j hw h;unfold eF at h
  split at h
  ·cases h;exact hw
  ·cases h
 |succ k ih=>
  intro gs i r j hw h;unfold eF at h
  split at h
  ·cases h;exact hw
  ·split at h
   ·cases h
   ·rename_i a l1 h1
    split at h
    ·cases h
    ·rename_i b l2 h2
     split at h
     ·cases h
     ·refine ih (fun g hg=> ?_) h;rcases List.mem_append.1 hg with hg|hg
      ·exact hw g hg
      ·simp at hg;subst hg;unfold tyP at h1 h2
       split at h1<;>split at h2<;>first| (cases h1;done) | (cases h2;done) |skip
       cases h1
       cases h2
       exact⟨by assumption,by assumption⟩
theorem mh {n x:Nat} (hx:x<n) (hn:n≤4):ce n (UInt8.ofNat (65+x))=true:=by
 have:(UInt8.ofNat (65+x)).toNat=65+x:=by rw[UInt8.toNat_ofNat'];omega
 unfold ce aI;rw[this];simp;omega
theorem yO {s:ByteArray} {cs:List Cls} {gs:List Sig} (hs:s.size≤2000) (hn:cs.length≤4) (hg: ∀g∈gs,ce cs.length g.arg=true∧ce cs.length g.ret=true): ∀{k:Nat} {bs:List Bod} {i:Nat} {r:List Bod} {j:Nat},(∀b∈bs,WfB cs gs b)→eG s cs gs k bs i= .ok (r,j)→(∀b∈r,WfB cs gs b)∧r.length≤k+bs.length:=by
 intro k
 induction k with
 |zero=>
  intro bs i r j hw h;unfold eG at h
  split at h
  ·cases h;exact⟨hw,by omega⟩
  ·cases h
 |succ k ih=>
  intro bs i r j hw h;unfold eG at h
  split at h
  ·cases h;exact⟨hw,by omega⟩
  ·split at h
   ·cases h
   ·rename_i x l1 h1
    split at h
    ·cases h
    ·rename_i m l2 h2
     split at h
     ·cases h
     ·split at h
      ·cases h
      ·rename_i t l3 h3
       split at h
       ·cases h
       ·rename_i is l4 h4
        have hx:=jl h1;have hm:=ed h2;have ht:=fZ h3;have ha:=j8 (by simp) h3;have hc:=qn hs (by simp) h4
        have:=ih (fun b hb=>by
         rcases List.mem_append.1 hb with hb|hb
         ·exact hw b hb
         ·rw[List.mem_singleton]at hb;subst hb;refine⟨hc.1,⟨hc.2.1,by simpa using hc.2.2⟩,⟨by simp at ht⊢;omega,?_⟩,Or.inr ⟨by simp,by simp;omega,by simp,by simp;omega⟩⟩;intro c a0;rw[List.mem_cons,List.mem_cons]at a0;rcases a0 with rfl|rfl|a0
          ·exact mh hx hn
          ·unfold gM;rw[List.getElem?_eq_getElem (by omega)];exact(hg _ (List.getElem_mem _)).1
          ·exact ha c a0) h
        simp at this;exact⟨this.1,by omega⟩
theorem mi {s:ByteArray} {im:Img} (hs:s.size≤2000) (h:dp s= .ok im):WfI im:=by
 unfold dp at h
 split at h
 ·cases h
 ·rename_i cs l1 h1
  split at h
  ·cases h
  ·rename_i gs l2 h2
   split at h
   ·cases h
   ·rename_i bs l3 h3
    split at h
    ·cases h
    ·rename_i t l4 h4
     split at h
     ·cases h
     ·rename_i is l5 h5
      split at h
      ·cases h
      ·cases h
       have hc:=oP h1;have a3:=mf h2;have a2:=qo (by simp) h2;have hb:=yO hs hc.2 a2 (by simp) h3;have ht:=fZ h4;have a4:=j8 (by simp) h4;have a1:=qn hs (by simp) h5;refine⟨hc.1,hc.2,by simpa using a3,a2,?_,by simp at hb⊢;omega⟩;intro b a0;simp at a0;rcases a0 with a0|rfl
       ·exact hb.1 b a0
       ·exact⟨a1.1,⟨a1.2.1,by simpa using a1.2.2⟩,⟨by simp at ht⊢;omega,a4⟩,Or.inl ⟨rfl,rfl⟩⟩
end Sp
section
open Go
section
variable {P:Program} {ops:Array Oper} {Q:Exit→Act→World→Prop} {S:World→Prop} {p:Nat}
def lP (P:Program) (ops:Array Oper) (Q:Exit→Act→World→Prop) (S:World→Prop) (p:Nat):Nat→Array Bool→Act→World→Prop
 |0,listed,a,w=>Region.ready .any ops listed=[]∧Q .normal a w
 |fuel+1,listed,a,w=>
  (Region.ready .any ops listed=[]→Q .normal a w)∧
  ∀i∈Region.ready .any ops listed,wpOp P ops Q i (fun a' w'=>(i<p→S w')∧lP P ops Q S p fuel (listed.setIfInBounds i true) a' w') a w
theorem iO: ∀(fuel:Nat) (listed:Array Bool) (a:Act) (w:World),lP P ops Q S p fuel listed a w→wpAny P .any ops Q fuel listed a w
 |0,_,_,_,h=>h
 |fuel+1,_,_,_,h=>⟨h.1,fun i hi=>wpOp_mono (fun a' w' h'=>iO fuel _ a' w' h'.2) (h.2 i hi)⟩
theorem jM {i:Nat} {oi:Oper} {v:Value} (hi:ops[i]?=some oi) (hip:i<p) (hsel: ∀(j:Nat) (o:Oper) cs b,ops[j]?=some o→o.op≠ .select cs b)
  (hwait: ∀j oj,ops[j]?=some oj→p≤j→ ∃e∈oj.after,Region.binds .any e=true∧e.on=i)
  (hQ: ∀c a w,Q (.panic c) (a.put oi.dst v) w→Q (.panic c) a w):
  ∀(fuel:Nat) (listed:Array Bool) (a:Act) (w:World),
   (∀j oj,ops[j]?=some oj→j≠i→listed.getD j true=false→(∀e∈oj.after,Region.binds .any e=true→e.on≠i)→oi.apart ops oj=true)→
   i∈Region.ready .any ops listed→YieldsIf P ops S oi v a→S w→
   lP P ops Q S p fuel (listed.setIfInBounds i true) (a.put oi.dst v) w→lP P ops Q S p (fuel+1) listed a w:=by
 intro fuel
 induction fuel with
 |zero=>
  intro listed a w _ hr hy hS H;refine⟨fun h=>(by rw[h]at hr;cases hr),fun j hj=> ?_⟩
  by_cases hji:j=i
  ·subst hji;exact hy.wpOp hi hS ⟨fun _=>hS,H⟩
  ·have:=ready_mono hj hji;rw[H.1]at this
   cases this
 |succ fuel ih=>
  intro listed a w a0 hr hy hS H;refine⟨fun h=>(by rw[h]at hr;cases hr),fun j hj=> ?_⟩
  by_cases hji:j=i
  ·subst hji;exact hy.wpOp hi hS ⟨fun _=>hS,H⟩
  ·have h1:=H.2 j (ready_mono hj hji);obtain⟨a2,oj,a4,a5⟩:=mem_ready.1 hj
   have a3: ∀e∈oj.after,Region.binds .any e=true→e.on≠i:=fun e he hb heq=>by
    have h1:=a5 e he hb;have h0:=(mem_ready.1 hr).1;rw[heq]at h1;rcases Nat.lt_or_ge i listed.size with h'|h'
    ·simp[h']at h0 h1;rw[h0]at h1;cases h1
    ·simp[Array.getElem?_eq_none h']at h1
   have a6:j<p:=by
    rcases Nat.lt_or_ge j p with h|h
    ·exact h
    ·obtain⟨e,he,hb,ho⟩:=hwait j oj a4 h;exact absurd ho (a3 e he hb)
   have h2:=wpOp_putIf a4 (a0 j oj a4 hji a2 a3) (fun cs b=>hsel i oi cs b hi) (fun cs b=>hsel j oj cs b a4) hQ hy h1
   have a1: ∀k ok,ops[k]?=some ok→k≠i→(listed.setIfInBounds j true).getD k true=false→
     (∀e∈ok.after,Region.binds .any e=true→e.on≠i)→oi.apart ops ok=true:=fun k ok hk hki hun hno=>by
    refine a0 k ok hk hki ?_ hno
    by_cases hjk:j=k
    ·subst hjk;exact a2
    ·rw[getD_set_ne true hjk]at hun;exact hun
   refine wpOp_mono (fun a' w' h3=>⟨h3.2.1,ih (listed.setIfInBounds j true) a' w' a1 (ready_mono hr (Ne.symm hji)) h3.1 (h3.2.1 a6) ?_⟩) h2;rw[Array.setIfInBounds_comm _ _ hji];exact h3.2.2
def ez (n k:Nat):Array Bool:=((List.range n).map fun i=>decide (i<k)).toArray
theorem eT (n k:Nat):(ez n k).setIfInBounds k true=ez n (k+1):=by
 unfold ez
 apply Array.ext
 ·simp
 ·intro i h1 h2
  by_cases h:k=i
  ·subst h;simp
  ·rw[Array.getElem_setIfInBounds_ne (by simpa using h1) h];simp;omega
theorem ur (n:Nat):Array.replicate n false=ez n 0:=by
 unfold ez
 apply Array.ext
 ·simp
 ·intro i h1 h2;simp
def wG (ops:Array Oper) (p k:Nat):Bool:=
 decide (k<p)&&Region.noSelect ops&&Region.free .any ops (ez ops.size k) k&&(Region.ready .any ops (ez ops.size k)).contains k&&
 (List.range ops.size).all fun j=>decide (j<p)||match ops[j]? with
  |some oj=>oj.after.any fun e=>Region.binds .any e&&e.on==k
  |none=>true
def gN (P:Program) (ops:Array Oper) (Q:Exit→Act→World→Prop) (S:World→Prop) (p k:Nat) (a:Act) (w:World):Prop:=
 lP P ops Q S p (ops.size-k) (ez ops.size k) a w
theorem aB {id:Nat} {a:Act} {w:World} (S:World→Prop) (p:Nat) (hm:P.follows .mixedOrders=true) (h:gN P ops Q S p 0 a w.drew):(Code.region id ops true).wp P Q a w:=by
 refine wp_region_any hm (iO (S:=S) (p:=p) _ _ _ _ ?_);rw[ur];exact h
theorem aK:(∀(l:List Value) (i:Nat) (v:Value),l.toArray.setIfInBounds i v=(l.set i v).toArray)∧(∀(x:Value) (l:List Value) (v:Value),(x::l).set 0 v=v::l)∧
  (∀(x:Value) (l:List Value) (n:Nat) (v:Value),(x::l).set (n+1) v=x::l.set n v):=⟨fun _ _ _=>by simp,fun _ _ _=>rfl,fun _ _ _ _=>rfl⟩
theorem dA {ops:Array Oper} {k:Nat} {o:Oper} {rest:List Oper} (h:ops.toList.drop k=o::rest):ops[k]?=some o:=by
 have h1:(ops.toList.drop k)[0]?=some o:=by rw[h];rfl
 rw[List.getElem?_drop,Nat.add_zero]at h1;simpa using h1
theorem aG {k:Nat} {o:Oper} {rest:List Oper} {v:Value} {a:Act} {w:World} (hod:ops.toList.drop k=o::rest) (hc:wG ops p k=true)
  (hQ: ∀c a w,Q (.panic c) (a.put o.dst v) w→Q (.panic c) a w)
  (hw:Region.wanted o (yielded ops a.tmps)=true) (hS:S w) (hy: ∀w,S w→(execOp a.eval o).run P w= .ok (.value v) w) (h:gN P ops Q S p (k+1) (a.put o.dst v) w):gN P ops Q S p k a w:=by
 have ho:=dA hod;unfold wG at hc;simp only[Bool.and_eq_true,decide_eq_true_eq,List.all_eq_true,List.mem_range]at hc;obtain⟨⟨⟨⟨a2,a3⟩,a0⟩,a4⟩,a5⟩:=hc;have hk:k<ops.size:=(Array.getElem?_eq_some_iff.1 ho).1;unfold gN at*;rw[show ops.size-k=(ops.size-(k+1))+1 from by omega];refine jM ho a2 (Region.noSelect_spec a3) ?_ hQ _ _ a w (Region.free_spec ho a0) (by simpa using a4) (Or.inl ⟨hw,hy⟩) hS (by rw[eT];exact h);intro j oj hj a6;have a1:j<ops.size:=(Array.getElem?_eq_some_iff.1 hj).1;have:=a5 j a1;rw[hj]at this;simp only[Bool.or_eq_true,decide_eq_true_eq,Array.any_eq_true,Bool.and_eq_true,beq_iff_eq]at this
 rcases this with h1| ⟨i,hi,h1,h2⟩
 ·omega
 ·exact⟨oj.after[i],Array.getElem_mem hi,h1,h2⟩
theorem ag {k:Nat} {o:Oper} {rest:List Oper} {a:Act} {w:World} (hod:ops.toList.drop k=o::rest) (hr:Region.ready .any ops (ez ops.size k)=[k])
  (h: ∀K':Act→World→Prop,Go.Shut (∀a w,(k<p→S w)→gN P ops Q S p (k+1) a w→K' a w)→if Region.wanted o (yielded ops a.tmps)=true then Oper.wp P o a w K' Q else K' (a.put o.dst undef) w):gN P ops Q S p k a w:=by
 have ho:=dA hod;have hk:k<ops.size:=(Array.getElem?_eq_some_iff.1 ho).1;unfold gN;rw[show ops.size-k=(ops.size-(k+1))+1 from by omega];refine⟨fun h=>(by rw[hr]at h;cases h),fun i hi=> ?_⟩;rw[hr]at hi;simp at hi;subst hi;exact wpOp_step ho (fun K' hK=>h K' (fun a w hS hW=>hK a w ⟨hS,by rw[eT];exact hW⟩))
theorem aF {k:Nat} {a:Act} {w:World} (hk:k=ops.size) (hr:Region.ready .any ops (ez ops.size k)=[]) (h:Q .normal a w):gN P ops Q S p k a w:=by
 subst hk;unfold gN;rw[Nat.sub_self];exact⟨hr,h⟩
def wH (ops:Array Oper) (p k:Nat):Bool:=decide (p≤k)&&decide (k≤ops.size)&&decide (Region.ready .any ops (ez ops.size ops.size)=[])&&(List.range' k (ops.size-k)).all fun j=>decide (Region.ready .any ops (ez ops.size j)=[j])
theorem nY: ∀(m k:Nat) (a:Act) (w:World),k+m=ops.size→p≤k→Region.ready .any ops (ez ops.size ops.size)=[]→(∀j∈List.range' k m,Region.ready .any ops (ez ops.size j)=[j])→wpOps P ops Q (List.range' k m) a w→lP P ops Q S p m (ez ops.size k) a w
 |0,k,a,w,hk,_,h0,_,h=>⟨by rw[show k=ops.size from by omega];exact h0,h⟩
 |m+1,k,a,w,hk,hp,h0,hr,h=>by
  have h1:=hr k (by simp[List.range'_succ]);rw[List.range'_succ,wpOps_cons]at h;refine⟨fun e=>(by rw[h1]at e;cases e),fun i hi=> ?_⟩;rw[h1,List.mem_singleton]at hi;subst hi;refine wpOp_mono (fun a' w' h'=>⟨fun e=>absurd e (by omega),?_⟩) h;rw[eT];exact nY m (i+1) a' w' (by omega) (by omega) h0 (fun j hj=>hr j (by rw[List.range'_succ];exact List.mem_cons_of_mem _ hj)) h'
theorem fx {k:Nat} {rest:List Oper} {a:Act} {w:World} (hod:ops.toList.drop k=rest) (hc:wH ops p k=true) (h:wpList P ops Q rest a w):gN P ops Q S p k a w:=by
 simp only[wH,Bool.and_eq_true,decide_eq_true_eq,List.all_eq_true]at hc;have hl:rest.length=ops.size-k:=by rw[←hod];simp
 rw[←wpOps_eq_wpList (ops:=ops) rest k (fun j=>by rw[←hod,List.getElem?_drop];simp),hl]at h;exact nY _ k a w (by omega) hc.1.1.1 hc.1.2 hc.2 h
end
end
section
open Go Go.RowKit
structure But (F:Nat→Prop) (w w':World):Prop where
 os:w'.os=w.os
 tape:w'.tape=w.tape
 output:w'.output=w.output
 size:w.heap.size≤w'.heap.size
 block: ∀k,k<w.heap.size→ ¬F k→w'.heap[k]?=w.heap[k]?
theorem But.refl (F:Nat→Prop) (w:World):But F w w:=⟨rfl,rfl,rfl,Nat.le_refl _,fun _ _ _=>rfl⟩
theorem But.trans {F:Nat→Prop} {a b c:World} (h:But F a b) (k:But F b c):But F a c:=
 ⟨k.os.trans h.os,k.tape.trans h.tape,k.output.trans h.output,Nat.le_trans h.size k.size,
  fun i hi hf=>(k.block i (Nat.lt_of_lt_of_le hi h.size) hf).trans (h.block i hi hf)⟩
theorem But.mono {F G:Nat→Prop} {a b:World} (h:But F a b) (hs: ∀k,k<a.heap.size→F k→G k):But G a b:=
 ⟨h.os,h.tape,h.output,h.size,fun k hk hg=>h.block k hk (fun hf=>hg (hs k hk hf))⟩
theorem But.next {F G:Nat→Prop} {a b c:World} (h:But G a b) (k:But F b c) (hs: ∀i,i<a.heap.size→F i→G i):But G a c:=
 ⟨k.os.trans h.os,k.tape.trans h.tape,k.output.trans h.output,Nat.le_trans h.size k.size,
  fun i hi hf=>(k.block i (Nat.lt_of_lt_of_le hi h.size) (fun h'=>hf (hs i hi h'))).trans (h.block i hi hf)⟩
theorem But.drewN (F:Nat→Prop) (w:World) (n:Nat):But F w (w.drewN n):=⟨rfl,rfl,rfl,Nat.le_refl _,fun _ _ _=>rfl⟩
theorem But.drew (F:Nat→Prop) (w:World):But F w w.drew:=⟨rfl,rfl,rfl,Nat.le_refl _,fun _ _ _=>rfl⟩
theorem But.alloc (F:Nat→Prop) (w:World) (o:Obj):But F w (w.alloc o):=
 ⟨rfl,rfl,rfl,by simp,fun k hk _=>Below.heap_alloc _ _ _ hk⟩
theorem But.setCell {F:Nat→Prop} (w:World) {a:Addr} (ha:F a.block) (u:Value):But F w (w.setCell a u):=
 ⟨rfl,rfl,rfl,by simp[World.setCell],fun k _ hf=>Below.heap_setCell _ _ _ _ (fun e=>hf (e▸ha))⟩
theorem But.setB (w:World) (b j:Nat) (u:Value):But (· =b) w (w.setCell ⟨b,j,none⟩ u):=But.setCell (F:=fun x=>x=b) w (a:=⟨b,j,none⟩) (by rfl) u
theorem But.cell {F:Nat→Prop} {w w':World} (h:But F w w') {p:Addr} (hp:p.block<w.heap.size) (hf: ¬F p.block):w'.cell? p=w.cell? p:=
 World.cell?_of_block (w:=w) (h.block p.block hp hf)
theorem But.frozen {F:Nat→Prop} {w w':World} (h:But F w w') {p:Addr} (hp:p.block<w.heap.size) (hf: ¬F p.block):w'.frozen? p=w.frozen? p:=
 World.frozen?_of_block (w:=w) (h.block p.block hp hf)
theorem But.toBelow {F:Nat→Prop} {B:Nat} {w w':World} (h:But F w w') (hB:B≤w.heap.size) (hF: ∀k,F k→B≤k):Below B w w':=
 ⟨h.os,h.tape,h.output,h.size,fun k hk=>h.block k (by omega) (fun hf=>by have:=hF k hf;omega)⟩
theorem ae {w:World} {b:Nat} {o:Obj} (h:w.heap[b]?=some o):b<w.heap.size:=by
 rcases Nat.lt_or_ge b w.heap.size with h1|h1
 ·exact h1
 ·rw[Array.getElem?_eq_none h1]at h;cases h
section
variable {w w':World} {g:Nat} {t:TypeId} {fr:Nat×Nat} {l:List Value} {x0 x1 x2 x3 x4 x5 x6 x7 x8 x9 x10:Value}
theorem ce0 (h:w.heap[g]?=some (.cells (List.toArray (x0::l)) t fr)):w.cell? ⟨g,0,none⟩=some x0:=by rw[cell_of_row w g 0 _ _ _ h];rfl
theorem ce1 (h:w.heap[g]?=some (.cells (List.toArray (x0::x1::l)) t fr)):w.cell? ⟨g,1,none⟩=some x1:=by rw[cell_of_row w g 1 _ _ _ h];rfl
theorem ce2 (h:w.heap[g]?=some (.cells (List.toArray (x0::x1::x2::l)) t fr)):w.cell? ⟨g,2,none⟩=some x2:=by rw[cell_of_row w g 2 _ _ _ h];rfl
theorem ce3 (h:w.heap[g]?=some (.cells (List.toArray (x0::x1::x2::x3::l)) t fr)):w.cell? ⟨g,3,none⟩=some x3:=by rw[cell_of_row w g 3 _ _ _ h];rfl
theorem ce4 (h:w.heap[g]?=some (.cells (List.toArray (x0::x1::x2::x3::x4::l)) t fr)):w.cell? ⟨g,4,none⟩=some x4:=by rw[cell_of_row w g 4 _ _ _ h];rfl
theorem ce5 (h:w.heap[g]?=some (.cells (List.toArray (x0::x1::x2::x3::x4::x5::l)) t fr)):w.cell? ⟨g,5,none⟩=some x5:=by rw[cell_of_row w g 5 _ _ _ h];rfl
theorem ce6 (h:w.heap[g]?=some (.cells (List.toArray (x0::x1::x2::x3::x4::x5::x6::l)) t fr)):w.cell? ⟨g,6,none⟩=some x6:=by rw[cell_of_row w g 6 _ _ _ h];rfl
theorem ce7 (h:w.heap[g]?=some (.cells (List.toArray (x0::x1::x2::x3::x4::x5::x6::x7::l)) t fr)):w.cell? ⟨g,7,none⟩=some x7:=by rw[cell_of_row w g 7 _ _ _ h];rfl
theorem ce8 (h:w.heap[g]?=some (.cells (List.toArray (x0::x1::x2::x3::x4::x5::x6::x7::x8::l)) t fr)):w.cell? ⟨g,8,none⟩=some x8:=by rw[cell_of_row w g 8 _ _ _ h];rfl
theorem ce9 (h:w.heap[g]?=some (.cells (List.toArray (x0::x1::x2::x3::x4::x5::x6::x7::x8::x9::l)) t fr)):w.cell? ⟨g,9,none⟩=some x9:=by rw[cell_of_row w g 9 _ _ _ h];rfl
theorem AR (h:w.heap[g]?=some (.cells (List.toArray (x0::x1::x2::x3::x4::x5::x6::x7::x8::x9::x10::l)) t fr)):w.cell? ⟨g,10,none⟩=some x10:=by rw[cell_of_row w g 10 _ _ _ h];rfl
theorem But.kp {o:Obj} (hB:But (fun _=>False) w w') (h:w.heap[g]?=some o):w'.heap[g]?=some o:=(hB.block g (ae h) (fun h=>h)).trans h
theorem But.kc {p:Addr} {v:Option Value} (hB:But (fun _=>False) w w') (h:w.cell? p=v) (hl:p.block<w.heap.size):w'.cell? p=v:=(hB.cell hl (fun h=>h)).trans h
theorem But.kz {p:Addr} {v:Bool} (hB:But (fun _=>False) w w') (h:w.frozen? p=v) (hl:p.block<w.heap.size):w'.frozen? p=v:=(hB.frozen hl (fun h=>h)).trans h
theorem tf (x:Nat) (k:Int) (h:(x:Int)≠k):((x:Int)==k)=false:=by rw[beq_eq_false_iff_ne];exact h
end
def RdB (w:World) (b:Nat) (s:ByteArray) (i:Nat) (bad src:Bool) (bi:Nat) (vc vt:Value):Prop:=
 w.heap[b]?=some (.cells #[.string s,.int .i64 i,.bool bad,.bool src,.pointer (some ⟨bi,0,none⟩),vc,vt] 140)
section
variable {w:World} {b:Nat} {s:ByteArray} {i:Nat} {bad src:Bool} {bi:Nat} {vc vt:Value}
theorem RdB.lt (h:RdB w b s i bad src bi vc vt):b<w.heap.size:=ae h
theorem RdB.c0 (h:RdB w b s i bad src bi vc vt):w.cell? ⟨b,0,none⟩=some (.string s):=by rw[cell_of_row w b 0 _ _ (0,0) h];rfl
theorem RdB.c1 (h:RdB w b s i bad src bi vc vt):w.cell? ⟨b,1,none⟩=some (.int .i64 i):=by rw[cell_of_row w b 1 _ _ (0,0) h];rfl
theorem RdB.c2 (h:RdB w b s i bad src bi vc vt):w.cell? ⟨b,2,none⟩=some (.bool bad):=by rw[cell_of_row w b 2 _ _ (0,0) h];rfl
theorem RdB.c3 (h:RdB w b s i bad src bi vc vt):w.cell? ⟨b,3,none⟩=some (.bool src):=by rw[cell_of_row w b 3 _ _ (0,0) h];rfl
theorem RdB.c4 (h:RdB w b s i bad src bi vc vt):w.cell? ⟨b,4,none⟩=some (.pointer (some ⟨bi,0,none⟩)):=by rw[cell_of_row w b 4 _ _ (0,0) h];rfl
theorem RdB.c5 (h:RdB w b s i bad src bi vc vt):w.cell? ⟨b,5,none⟩=some vc:=by rw[cell_of_row w b 5 _ _ (0,0) h];rfl
theorem RdB.c6 (h:RdB w b s i bad src bi vc vt):w.cell? ⟨b,6,none⟩=some vt:=by rw[cell_of_row w b 6 _ _ (0,0) h];rfl
theorem RdB.fz (h:RdB w b s i bad src bi vc vt) (j:Nat):w.frozen? ⟨b,j,none⟩=false:=frozen_of_row w b j _ _ h
theorem RdB.drewN (h:RdB w b s i bad src bi vc vt) (n:Nat):RdB (w.drewN n) b s i bad src bi vc vt:=h
theorem RdB.but {F:Nat→Prop} {w':World} (h:RdB w b s i bad src bi vc vt) (hb:But F w w') (hf: ¬F b):RdB w' b s i bad src bi vc vt:=(hb.block b h.lt hf).trans h
theorem RdB.alloc (h:RdB w b s i bad src bi vc vt) (o:Obj):RdB (w.alloc o) b s i bad src bi vc vt:=h.but (But.alloc (fun _=>False) w o) (fun h=>h)
theorem RdB.set1 (h:RdB w b s i bad src bi vc vt) (j:Nat):RdB (w.setCell ⟨b,1,none⟩ (.int .i64 j)) b s j bad src bi vc vt:=heap_setCell_same w b 1 _ _ _ h
theorem RdB.inc (h:RdB w b s i bad src bi vc vt):RdB (w.setCell ⟨b,1,none⟩ (.int .i64 ((i:Int)+1))) b s (i+1) bad src bi vc vt:=by simpa using h.set1 (i+1)
theorem RdB.set2 (h:RdB w b s i bad src bi vc vt) (d:Bool):RdB (w.setCell ⟨b,2,none⟩ (.bool d)) b s i d src bi vc vt:=heap_setCell_same w b 2 _ _ _ h
theorem RdB.set5 (h:RdB w b s i bad src bi vc vt) (v:Value):RdB (w.setCell ⟨b,5,none⟩ v) b s i bad src bi v vt:=heap_setCell_same w b 5 _ _ _ h
theorem RdB.set6 (h:RdB w b s i bad src bi vc vt) (v:Value):RdB (w.setCell ⟨b,6,none⟩ v) b s i bad src bi vc v:=heap_setCell_same w b 6 _ _ _ h
end
theorem CB {w:World} {g:Nat} (h:w.heap.size=g) (o:Obj):(w.alloc o).heap[g]?=some o:=by subst h;exact heap_alloc_new _ _
theorem br (w:World) (a:Addr) (u:Value):(w.setCell a u).heap.size=w.heap.size:=by simp[World.setCell]
def ImB (w:World) (bi:Nat) (v0 v1 v2:Value):Prop:=w.heap[bi]?=some (.cells #[v0,v1,v2] 44)
section
variable {w:World} {bi:Nat} {v0 v1 v2:Value}
theorem ImB.lt (h:ImB w bi v0 v1 v2):bi<w.heap.size:=ae h
theorem ImB.c0 (h:ImB w bi v0 v1 v2):w.cell? ⟨bi,0,none⟩=some v0:=by rw[cell_of_row w bi 0 _ _ (0,0) h];rfl
theorem ImB.c1 (h:ImB w bi v0 v1 v2):w.cell? ⟨bi,1,none⟩=some v1:=by rw[cell_of_row w bi 1 _ _ (0,0) h];rfl
theorem ImB.c2 (h:ImB w bi v0 v1 v2):w.cell? ⟨bi,2,none⟩=some v2:=by rw[cell_of_row w bi 2 _ _ (0,0) h];rfl
theorem ImB.fz (h:ImB w bi v0 v1 v2) (j:Nat):w.frozen? ⟨bi,j,none⟩=false:=frozen_of_row w bi j _ _ h
theorem ImB.but {F:Nat→Prop} {w':World} (h:ImB w bi v0 v1 v2) (hb:But F w w') (hf: ¬F bi):ImB w' bi v0 v1 v2:=(hb.block bi h.lt hf).trans h
theorem ImB.set0 (h:ImB w bi v0 v1 v2) (v:Value):ImB (w.setCell ⟨bi,0,none⟩ v) bi v v1 v2:=heap_setCell_same w bi 0 _ _ _ h
theorem ImB.set1 (h:ImB w bi v0 v1 v2) (v:Value):ImB (w.setCell ⟨bi,1,none⟩ v) bi v0 v v2:=heap_setCell_same w bi 1 _ _ _ h
theorem ImB.set2 (h:ImB w bi v0 v1 v2) (v:Value):ImB (w.setCell ⟨bi,2,none⟩ v) bi v0 v1 v:=heap_setCell_same w bi 2 _ _ _ h
end
theorem ah {F:Nat→Prop} {w w':World} {base e size n:Nat} {v:Value} {xs:List Value} (h:w.ownsRow base e size v n xs) (hb:But F w w') (hf: ∀g,v.ownBlock=some g→ ¬F g):w'.ownsRow base e size v n xs:=by
 refine⟨h.1,?_⟩;rcases h.2 with h2| ⟨g,cap,cur,hv,hg,hh,r⟩
 ·exact Or.inl h2
 ·exact Or.inr ⟨g,cap,cur,hv,hg,(hb.block g (ae hh) (hf g (by rw[hv];rfl))).trans hh,r⟩
theorem aj {w:World} {base e size n:Nat} {v:Value} {xs:List Value} (h:w.ownsRow base e size v n xs): ∀g,v.ownBlock=some g→base≤g:=by
 intro g hg;rcases h.2 with⟨rfl,_⟩ | ⟨g',cap,cur,rfl,hb,_⟩
 ·cases hg
 ·simp[Value.ownBlock]at hg;omega
theorem aS {w:World} {base e size n:Nat} {v:Value} {xs:List Value} (h:w.ownsRow base e size v n xs): ∀g,v.ownBlock=some g→g<w.heap.size:=by
 intro g hg;rcases h.2 with⟨rfl,_⟩ | ⟨g',cap,cur,rfl,hb,hh,_⟩
 ·cases hg
 ·simp[Value.ownBlock]at hg;subst hg;exact ae hh
theorem du (w:World) (base e size:Nat):w.ownsRow base e size (.slice none 0 0) 0 []:=⟨by simp,Or.inl ⟨rfl,rfl⟩⟩
theorem aq {w:World} {base e size n:Nat} {v:Value} {xs:List Value} (h:w.ownsRow base e size v n xs): ∃ao cap,v= .slice ao n cap:=by
 rcases h.2 with⟨rfl,rfl⟩ | ⟨g',cap,cur,rfl,_⟩
 ·exact⟨_,_,rfl⟩
 ·exact⟨_,_,rfl⟩
theorem fy {w:World} {base e size n:Nat} {v:Value} {xs:List Value} (h:w.ownsRow base e size v n xs) {j:Nat} {u:Value} (hu:xs[j]?=some u):
  ∃g cap,v= .slice (some ⟨g,0,none⟩) n cap∧w.cell? ⟨g,j,none⟩=some u∧g<w.heap.size∧base≤g:=by
 rcases h.2 with⟨rfl,rfl⟩ | ⟨g,cap,cur,rfl,hb,hh,_⟩
 ·have:=h.1;simp at this;subst this;simp at hu
 ·refine⟨g,cap,rfl,?_,ae hh,hb⟩;have hj:j<n*size:=by rw[←h.1];exact(List.getElem?_eq_some_iff.1 hu).1
  rw[h.cellAt j hj,hu]
theorem aX {w w':World} {row:Option Nat} (h:w.grownBy w' row):But (fun k=>row=some k) w w':=
 ⟨h.os,h.tape,h.output,h.size,fun k hk hf=>h.block k hk (fun e=>hf e.symm)⟩
def cE (cs:List Sp.Cls):List Value:=cs.flatMap fun c=> [.int .i64 c.par,.string ⟨c.fields.toArray⟩]
def cy (gs:List Sp.Sig):List Value:=gs.flatMap fun g=> [.int .u8 g.arg.toNat,.int .u8 g.ret.toNat]
def cz (l:List Sp.Ins):List Value:=l.flatMap fun x=> [.int .u8 x.op.toNat,.int .i64 x.a,.int .i64 x.b,.int .i64 x.pos]
theorem el {α β:Type} (f:α→List β) (m:Nat) (hf: ∀x,(f x).length=m): ∀(l:List α) (j k:Nat) (x:α),l[j]?=some x→k<m→(l.flatMap f)[j*m+k]?=(f x)[k]?:=by
 intro l
 induction l with
 |nil=>intro j k x h _;simp at h
 |cons y l ih=>
  intro j k x h hk
  cases j with
  |zero=>
   simp at h;subst h;rw[List.flatMap_cons,Nat.zero_mul,Nat.zero_add,List.getElem?_append_left (by rw[hf];exact hk)]
  |succ j=>
   simp at h;rw[List.flatMap_cons,List.getElem?_append_right (by rw[hf,Nat.succ_mul];omega),hf];rw[show(j+1)*m+k-m=j*m+k from by rw[Nat.succ_mul];omega];exact ih j k x h hk
theorem ka {cs:List Sp.Cls} {j:Nat} {c:Sp.Cls} (h:cs[j]?=some c):(cE cs)[j*2]?=some (.int .i64 c.par):=by
 have:=el (fun c:Sp.Cls=> [Value.int .i64 c.par,.string ⟨c.fields.toArray⟩]) 2 (fun _=>rfl) cs j 0 c h (by omega);simpa[cE]using this
theorem fk {cs:List Sp.Cls} {j:Nat} {c:Sp.Cls} (h:cs[j]?=some c):(cE cs)[j*2+1]?=some (.string ⟨c.fields.toArray⟩):=by
 have:=el (fun c:Sp.Cls=> [Value.int .i64 c.par,.string ⟨c.fields.toArray⟩]) 2 (fun _=>rfl) cs j 1 c h (by omega);simpa[cE]using this
def cK (l:List (Sp.Bod×Value×Value)):List Value:=l.flatMap fun x=> [.int .i64 x.1.cls,.int .i64 x.1.meth,.string ⟨x.1.locals.toArray⟩,x.2.1,x.2.2]
theorem nC (l:List (Sp.Bod×Value×Value)) (x:Sp.Bod×Value×Value):cK (l++ [x])=cK l++ [.int .i64 x.1.cls,.int .i64 x.1.meth,.string ⟨x.1.locals.toArray⟩,x.2.1,x.2.2]:=by simp[cK]
theorem cG {l:List (Sp.Bod×Value×Value)} {j k:Nat} {x:Sp.Bod×Value×Value} (h:l[j]?=some x) (hk:k<5):(cK l)[j*5+k]?=[Value.int .i64 x.1.cls,.int .i64 x.1.meth,.string ⟨x.1.locals.toArray⟩,x.2.1,x.2.2][k]?:=
 el (fun x:Sp.Bod×Value×Value=> [Value.int .i64 x.1.cls,.int .i64 x.1.meth,.string ⟨x.1.locals.toArray⟩,x.2.1,x.2.2]) 5 (fun _=>rfl) l j k x h hk
theorem ef {gs:List Sp.Sig} {j k:Nat} {g:Sp.Sig} (h:gs[j]?=some g) (hk:k<2):(cy gs)[j*2+k]?=[Value.int .u8 g.arg.toNat,.int .u8 g.ret.toNat][k]?:=
 el (fun g:Sp.Sig=> [Value.int .u8 g.arg.toNat,.int .u8 g.ret.toNat]) 2 (fun _=>rfl) gs j k g h hk
theorem dq {l:List Sp.Ins} {j k:Nat} {x:Sp.Ins} (h:l[j]?=some x) (hk:k<4):(cz l)[j*4+k]?=[Value.int .u8 x.op.toNat,.int .i64 x.a,.int .i64 x.b,.int .i64 x.pos][k]?:=
 el (fun x:Sp.Ins=> [Value.int .u8 x.op.toNat,.int .i64 x.a,.int .i64 x.b,.int .i64 x.pos]) 4 (fun _=>rfl) l j k x h hk
theorem kb {l:List (Sp.Bod×Value×Value)} {j:Nat} {x:Sp.Bod×Value×Value} (h:l[j]?=some x):(cK l)[j*5]?=some (.int .i64 x.1.cls):=cG (k:=0) h (by omega)
theorem ke {l:List (Sp.Bod×Value×Value)} {j:Nat} {x:Sp.Bod×Value×Value} (h:l[j]?=some x):(cK l)[j*5+1]?=some (.int .i64 x.1.meth):=cG (k:=1) h (by omega)
theorem oQ {l:List (Sp.Bod×Value×Value)} {j:Nat} {x:Sp.Bod×Value×Value} (h:l[j]?=some x):(cK l)[j*5+2]?=some (.string ⟨x.1.locals.toArray⟩):=cG (k:=2) h (by omega)
theorem oS {l:List (Sp.Bod×Value×Value)} {j:Nat} {x:Sp.Bod×Value×Value} (h:l[j]?=some x):(cK l)[j*5+3]?=some (x.2.1):=cG (k:=3) h (by omega)
theorem oT {l:List (Sp.Bod×Value×Value)} {j:Nat} {x:Sp.Bod×Value×Value} (h:l[j]?=some x):(cK l)[j*5+4]?=some (x.2.2):=cG (k:=4) h (by omega)
theorem kg {gs:List Sp.Sig} {j:Nat} {g:Sp.Sig} (h:gs[j]?=some g):(cy gs)[j*2]?=some (.int .u8 g.arg.toNat):=ef (k:=0) h (by omega)
theorem oU {gs:List Sp.Sig} {j:Nat} {g:Sp.Sig} (h:gs[j]?=some g):(cy gs)[j*2+1]?=some (.int .u8 g.ret.toNat):=ef (k:=1) h (by omega)
theorem oV {l:List Sp.Ins} {j:Nat} {x:Sp.Ins} (h:l[j]?=some x):(cz l)[j*4]?=some (.int .u8 x.op.toNat):=dq (k:=0) h (by omega)
theorem oW {l:List Sp.Ins} {j:Nat} {x:Sp.Ins} (h:l[j]?=some x):(cz l)[j*4+1]?=some (.int .i64 x.a):=dq (k:=1) h (by omega)
theorem oX {l:List Sp.Ins} {j:Nat} {x:Sp.Ins} (h:l[j]?=some x):(cz l)[j*4+2]?=some (.int .i64 x.b):=dq (k:=2) h (by omega)
theorem oY {l:List Sp.Ins} {j:Nat} {x:Sp.Ins} (h:l[j]?=some x):(cz l)[j*4+3]?=some (.int .i64 x.pos):=dq (k:=3) h (by omega)
theorem aD {w:World} {base e size n cap:Nat} {ao:Option Addr} {xs:List Value} (h:w.ownsRow base e size (.slice ao n cap) n xs) (hn:0<n):
  ∃g,ao=some ⟨g,0,none⟩∧g<w.heap.size∧base≤g∧ ∀j u,xs[j]?=some u→w.cell? ⟨g,j,none⟩=some u:=by
 obtain⟨g,cap',hv,hb,a0⟩:=h.form hn;injection hv with h1 h2 h3;subst h1;refine⟨g,rfl,a0,hb,fun j u hu=> ?_⟩;obtain⟨g',c',a1,hc,_⟩:=fy h hu;injection a1 with h1;injection h1 with h1;injection h1 with h1;subst h1;exact hc
theorem jA (cs:List Sp.Cls) (c:Sp.Cls):cE (cs++ [c])=cE cs++ [.int .i64 c.par,.string ⟨c.fields.toArray⟩]:=by simp[cE]
theorem jB (cs:List Sp.Sig) (c:Sp.Sig):cy (cs++ [c])=cy cs++ [.int .u8 c.arg.toNat,.int .u8 c.ret.toNat]:=by simp[cy]
theorem nD (cs:List Sp.Ins) (c:Sp.Ins):cz (cs++ [c])=cz cs++ [.int .u8 c.op.toNat,.int .i64 c.a,.int .i64 c.b,.int .i64 c.pos]:=by simp[cz]
theorem fE (tl:List UInt8) (c:UInt8):(⟨tl.toArray⟩:ByteArray)++⟨#[c]⟩=⟨(tl++ [c]).toArray⟩:=by
 apply ByteArray.ext
 simp
theorem cF (l m:List UInt8):(⟨l.toArray⟩:ByteArray)++⟨m.toArray⟩=⟨(l++m).toArray⟩:=by
 apply ByteArray.ext
 simp
theorem qp (c:UInt8) (w:World):(convert 112 9 (.slice (some ⟨w.heap.size,0,none⟩) 1 1)).run Tryz.prog (w.alloc (.cells #[.int .u8 c.toNat] 5))= .ok (.string ⟨#[c]⟩) (w.alloc (.cells #[.int .u8 c.toNat] 5)):=by
 refine run_convert_bytes_back (w.alloc (.cells #[.int .u8 c.toNat] 5)) 112 9 5 ⟨w.heap.size,0,none⟩ 1 [c] (by kernel_rfl) (by kernel_rfl) (by kernel_rfl) ?_;intro j hj
 match j,hj with
 |0,_=>simp[Addr.add]
theorem AS (c d:UInt8) (w:World):(convert 112 9 (.slice (some ⟨w.heap.size,0,none⟩) 2 2)).run Tryz.prog (w.alloc (.cells #[.int .u8 c.toNat,.int .u8 d.toNat] 5))= .ok (.string ⟨#[c,d]⟩) (w.alloc (.cells #[.int .u8 c.toNat,.int .u8 d.toNat] 5)):=by
 refine run_convert_bytes_back (w.alloc (.cells #[.int .u8 c.toNat,.int .u8 d.toNat] 5)) 112 9 5 ⟨w.heap.size,0,none⟩ 2 [c,d] (by kernel_rfl) (by kernel_rfl) (by kernel_rfl) ?_;intro j hj
 match j,hj with
 |0,_=>simp[Addr.add]
 |1,_=>simp[Addr.add]
theorem dj (n:Int) (h1: -1000000000≤n) (h2:n≤1000000000):IntKind.i64.wrap n=n:=(IntWalk.i64_left n).trans (IntWalk.wrap64_in n ⟨by omega,by omega⟩)
theorem hid {p:Prop} (h:p):Hid p:=h
theorem tT {k:IntKind} {a b:Int} (h:a=b):Ending.returned (.int k a)= .returned (.int k b):=by rw[h]
theorem cB {P:Program} {fn:Func} {R:Ending→World→Prop} {a:Act} {w:World} (v:Value) {t:Nat} (hf:fn.results=#[.tmp t]) (hd:a.defers=[]) (hc:a.tmps.getD t undef=v) (hR:R (.returned v) w):bodyPost P fn R .ret a w:=by
  refine bodyPost_ret (v:=v) ?_ hd hR;have a0:a.tmps[t]?.getD undef=v:=by simpa using hc
  simp[results,hf,a0,go_sem]
theorem fV {P:Program} {fn:Func} {R:Ending→World→Prop} {a:Act} {w:World} (hf:fn.results=#[]) (hd:a.defers=[]) (hR:R (.returned (.tuple #[])) w):bodyPost P fn R .ret a w:=by
  refine bodyPost_ret (v:= .tuple #[]) ?_ hd hR;simp[results,hf,go_sem]
end
end Go.Proofs.YtpfkkmacakjmbaaGreatDoor
