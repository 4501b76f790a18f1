import Derived.Deep.Onto
import Derived.OrdersHeld
import Derived.Deep.RegionHeld3
import Derived.Deep.AppendLies
import Derived.Test.YtpfkkmacakjmbaaGreatDoorProg
import Derived.WalkKit
import Derived.WalkSpells
import Derived.Deep.QuietTactic
import Derived.BigQuiet
import Derived.Deep.LoopGhost
import Derived.Deep.DrawnRows
set_option maxRecDepth 100000
set_option maxHeartbeats 6400000
set_option linter.all false
namespace Go.Proofs.YtpfkkmacakjmbaaGreatDoor
open Proofs.Tryz
namespace Sp
structure Cls where
 par:Int
 fields:List UInt8
structure Sig where
 arg:UInt8
 ret:UInt8
structure Ins where
 op:UInt8
 a:Nat
 b:Nat
 pos:Nat
structure Bod where
 cls:Int
 meth:Int
 locals:List UInt8
 code:List Ins
structure Img where
 zz:List Cls
 zj:List Sig
 zq:List Bod
def pk (s:ByteArray) (i:Nat):UInt8:=if h:i<s.size then s[i]else 0
def aN (n:Nat) (c:UInt8):Bool:=decide (65<=c.toNat)&&decide (c.toNat<65+n)
def fd (n:Nat) (c:UInt8):Bool:=decide (48<=c.toNat)&&decide (c.toNat<=57)&&decide (c.toNat<48+n)
def cZ (n:Nat) (c:UInt8):Bool:=decide (c.toNat=105)||aN n c
def tys (s:ByteArray) (n:Nat) (e:UInt8):Nat->List UInt8->Nat->Except Nat (List UInt8×Nat)
 |0,t,i=>if pk s i=e then .ok (t,i+1)else .error i
 |k+1,t,i=>if pk s i=e then .ok (t,i+1)else if cZ n (pk s i)=true then tys s n e k (t++ [pk s i]) (i+1)else .error i
def od (s:ByteArray) (c:UInt8) (i:Nat):Except Nat Nat:=if pk s i=c then .ok (i+1)else .error i
def eX (s:ByteArray) (n i:Nat):Except Nat (Nat×Nat):=if aN n (pk s i)=true then .ok ((pk s i).toNat-65,i+1)else .error i
def ej (s:ByteArray) (n i:Nat):Except Nat (Nat×Nat):=if fd n (pk s i)=true then .ok ((pk s i).toNat-48,i+1)else .error i
def tyP (s:ByteArray) (n i:Nat):Except Nat (UInt8×Nat):=if cZ n (pk s i)=true then .ok (pk s i,i+1)else .error i
def inh (cs:List Cls) (p:Int):List UInt8:=if p<0 then []else(cs[p.toNat]?.map (·.fields)).getD []
def jU (s:ByteArray) (n i:Nat):Except Nat (Int×Nat):=
 if(pk s i).toNat=45 then .ok (-1,i+1)else
 match eX s n i with
 | .ok (p,j)=> .ok ((p:Int),j)
 | .error j=> .error j
def ep (s:ByteArray):Nat->List Cls->Nat->Except Nat (List Cls×Nat)
 |0,cs,i=>if(pk s i).toNat=59 then .ok (cs,i+1)else .error i
 |k+1,cs,i=>if(pk s i).toNat=59 then .ok (cs,i+1)else
  match jU s cs.length i with
  | .error j=> .error j
  | .ok (p,j)=>
   match tys s (cs.length+1) 46 2 [] j with
   | .error l=> .error l
   | .ok (own,l)=>ep s k (cs++ [⟨p,inh cs p++own⟩]) l
def gH (s:ByteArray) (n:Nat):Nat->List Sig->Nat->Except Nat (List Sig×Nat)
 |0,gs,i=>if(pk s i).toNat=59 then .ok (gs,i+1)else .error i
 |k+1,gs,i=>if(pk s i).toNat=59 then .ok (gs,i+1)else
  match tyP s n i with
  | .error j=> .error j
  | .ok (a,j)=>
   match tyP s n j with
   | .error l=> .error l
   | .ok (b,l)=>
    match od s 46 l with
    | .error m=> .error m
    | .ok m=>gH s n k (gs++ [⟨a,b⟩]) m
def bH (cs:List Cls) (a:Nat):Nat:=((cs[a]?.map (·.fields)).getD []).length
def bA (s:ByteArray) (cs:List Cls) (ns nl:Nat) (c i:Nat):Except Nat (Nat×Nat×Nat):=
 if c=108\/c=115 then
  match ej s nl i with
  | .ok (b,j)=> .ok (0,b,j)
  | .error j=> .error j
 else if c=107 then
  match ej s 10 i with
  | .ok (b,j)=> .ok (0,b,j)
  | .error j=> .error j
 else if c=110\/c=120 then
  match eX s cs.length i with
  | .ok (a,j)=> .ok (a,0,j)
  | .error j=> .error j
 else if c=103\/c=112 then
  match eX s cs.length i with
  | .error j=> .error j
  | .ok (a,j)=>
   match ej s (bH cs a) j with
   | .ok (b,l)=> .ok (a,b,l)
   | .error l=> .error l
 else if c=99 then
  match eX s cs.length i with
  | .error j=> .error j
  | .ok (a,j)=>
   match ej s ns j with
   | .ok (b,l)=> .ok (a,b,l)
   | .error l=> .error l
 else if c=106\/c=102 then
  match ej s 10 i with
  | .error j=> .error j
  | .ok (a,j)=>
   match ej s 10 j with
   | .ok (b,l)=> .ok (0,10*a+b,l)
   | .error l=> .error l
 else .ok (0,0,i)
def cV:List Nat:=[107,114,119,108,115,43,45,42,47,60,61,101,110,122,103,112,99,120,100,106,102,116]
def mz (s:ByteArray) (cs:List Cls) (ns nl i:Nat):Except Nat (Ins×Nat):=
 if cV.contains (pk s i).toNat=true then
  match bA s cs ns nl (pk s i).toNat (i+1)with
  | .ok (a,b,j)=> .ok (⟨pk s i,a,b,i⟩,j)
  | .error j=> .error j
 else .error i
def dy (s:ByteArray) (cs:List Cls) (ns nl:Nat):Nat->List Ins->Nat->Except Nat (List Ins×Nat)
 |0,is,i=>if(pk s i).toNat=46/\is≠ []then .ok (is,i+1)else .error i
 |k+1,is,i=>if(pk s i).toNat=46/\is≠ []then .ok (is,i+1)else
  match mz s cs ns nl i with
  | .error j=> .error j
  | .ok (x,j)=>dy s cs ns nl k (is++ [x]) j
def jC (bs:List Bod) (x m:Int):Option Nat:=bs.findIdx? λb=>b.cls==x&&b.meth==m
def jD (gs:List Sig) (m:Nat):UInt8:=(gs[m]?.map (·.arg)).getD 0
def fU (s:ByteArray) (cs:List Cls) (gs:List Sig):Nat->List Bod->Nat->Except Nat (List Bod×Nat)
 |0,bs,i=>if(pk s i).toNat=59 then .ok (bs,i+1)else .error i
 |k+1,bs,i=>if(pk s i).toNat=59 then .ok (bs,i+1)else
  match eX s cs.length i with
  | .error j=> .error j
  | .ok (x,j)=>
   match ej s gs.length j with
   | .error l=> .error l
   | .ok (m,l)=>
    if(jC bs x m).isSome=true then .error j else
    match tys s cs.length 58 3 [] l with
    | .error p=> .error p
    | .ok (t,p)=>
     match dy s cs gs.length (t.length+2) 100 [] p with
     | .error q=> .error q
     | .ok (is,q)=>fU s cs gs k (bs++ [⟨x,m,UInt8.ofNat (65+x)::jD gs m::t,is⟩]) q
def ec (s:ByteArray):Except Nat Img:=
 match ep s 4 [] 0 with
 | .error i=> .error i
 | .ok (cs,i)=>
  match gH s cs.length 3 [] i with
  | .error j=> .error j
  | .ok (gs,j)=>
   match fU s cs gs 6 [] j with
   | .error l=> .error l
   | .ok (bs,l)=>
    match tys s cs.length 58 3 [] l with
    | .error p=> .error p
    | .ok (t,p)=>
     match dy s cs gs.length t.length 100 [] p with
     | .error q=> .error q
     | .ok (is,q)=>if q<s.size then .error q else .ok ⟨cs,gs,bs++ [⟨-1,-1,t,is⟩]⟩
theorem jd {s:ByteArray} {n:Nat} {e:UInt8}: ∀{k:Nat} {t:List UInt8} {i:Nat} {r:List UInt8} {j:Nat},tys s n e k t i= .ok (r,j)->r.length<=k+t.length:=by
 intro k
 induction k with
 |zero=>
  intro t i r j h;unfold tys at h
  split at h
  .cases h;omega
  .cases h
 |succ k ih=>
  intro t i r j h;unfold tys at h
  split at h
  .cases h;omega
  .split at h
   .have:=ih h;simp at this;omega
   .cases h
theorem mA {s:ByteArray} {n:Nat} {e:UInt8}: ∀{k:Nat} {t:List UInt8} {i:Nat} {r:List UInt8} {j:Nat},(∀c∈t,cZ n c=true)->tys s n e k t i= .ok (r,j)-> ∀c∈r,cZ n c=true:=by
 intro k
 induction k with
 |zero=>
  intro t i r j ht h;unfold tys at h
  split at h
  .cases h;exact ht
  .cases h
 |succ k ih=>
  intro t i r j ht h;unfold tys at h
  split at h
  .cases h;exact ht
  .split at h
   .refine ih ?_ h;intro c hc;obtain hc|hc:=List.mem_append.1 hc
    .exact ht c hc
    .simp at hc;subst hc;assumption
   .cases h
def WfC (cs:List Cls):Prop:= ∀(j:Nat) (c:Cls),cs[j]?=some c-> -1<=c.par/\c.par<j/\c.fields.length<=2*(j+1)/\ ∀t∈c.fields,cZ (j+1) t=true
theorem fK {n m:Nat} {c:UInt8} (h:n<=m) (hc:cZ n c=true):cZ m c=true:=by
 simp only[cZ,aN,Bool.or_eq_true,Bool.and_eq_true,decide_eq_true_eq]at*;omega
theorem rz {s:ByteArray} {n i:Nat} {p:Int} {j:Nat} (h:jU s n i= .ok (p,j)):j=i+1/\((p= -1/\(pk s i).toNat=45)\/((pk s i).toNat≠45/\aN n (pk s i)=true/\p=(((pk s i).toNat-65:Nat):Int))):=by
 unfold jU eX at h
 split at h
 .cases h;exact⟨rfl,Or.inl ⟨rfl,by assumption⟩⟩
 .split at h
  .rename_i hh
   split at hh
   .cases hh;cases h;exact⟨rfl,Or.inr ⟨by assumption,by assumption,rfl⟩⟩
   .cases hh
  .cases h
theorem zZ {cs:List Cls} {n:Nat} {c:Cls} (h:cs[n]?=some c):inh cs (n:Int)=c.fields:=by
 unfold inh;rw[if_neg (by omega),Int.toNat_natCast,h]
 rfl
theorem BK {cs:List Cls} (h:WfC cs) (p:Int):(inh cs p).length<=2*cs.length:=by
 unfold inh
 split
 .simp
 .cases hc:cs[p.toNat]? with
  |none=>simp
  |some c=>
   have h1:=(List.getElem?_eq_some_iff.1 hc).1;have h2:=(h _ _ hc).2.2.1;simp;omega
theorem mB {s:ByteArray} {cs:List Cls} {p:Int} {i j l:Nat} {own:List UInt8} (h:WfC cs) (hp:jU s cs.length i= .ok (p,j)) (ho:tys s (cs.length+1) 46 2 [] j= .ok (own,l)):
  WfC (cs++ [⟨p,inh cs p++own⟩]):=by
 intro k c hc;obtain hk|hk:=Nat.lt_or_ge k cs.length
 .rw[List.getElem?_append_left hk]at hc;exact h k c hc
 .rw[List.getElem?_append_right hk]at hc
  have a0:k-cs.length=0:=by
   have:=(List.getElem?_eq_some_iff.1 hc).1;simp at this;omega
  have a1:k=cs.length:=by omega
  rw[a0]at hc;simp at hc;subst hc;subst a1;obtain⟨_,hp⟩:=rz hp;have h1:=BK h p;have h2:=jd ho;refine⟨?_,?_,?_,?_⟩
  .obtain⟨rfl,_⟩ | ⟨_,_,rfl⟩:=hp<;>simp<;>omega
  .obtain⟨rfl,_⟩ | ⟨_,hl,rfl⟩:=hp
   .simp;omega
   .simp[aN]at hl;simp;omega
  .simp at h1 h2⊢;omega
  .intro t ht;simp at ht;obtain ht|ht:=ht
   .unfold inh at ht
    split at ht
    .simp at ht
    .cases hc:cs[p.toNat]? with
     |none=>simp[hc]at ht
     |some c=>
      simp[hc]at ht;have h3:=(List.getElem?_eq_some_iff.1 hc).1;exact fK (by omega) ((h _ _ hc).2.2.2 t ht)
   .exact mA (by simp) ho t ht
theorem clsP_wf' {s:ByteArray}: ∀{k:Nat} {cs:List Cls} {i:Nat} {r:List Cls} {j:Nat},WfC cs->ep s k cs i= .ok (r,j)->WfC r/\r.length<=k+cs.length:=by
 intro k
 induction k with
 |zero=>
  intro cs i r j hw h;unfold ep at h
  split at h
  .cases h;exact⟨hw,by omega⟩
  .cases h
 |succ k ih=>
  intro cs i r j hw h;unfold ep at h
  split at h
  .cases h;exact⟨hw,by omega⟩
  .split at h
   .cases h
   .rename_i p l hp
    split at h
    .cases h
    .rename_i own m ho
     have:=ih (mB hw hp ho) h;simp at this;exact⟨this.1,by omega⟩
theorem rA {s:ByteArray} {i:Nat} {r:List Cls} {j:Nat} (h:ep s 4 [] i= .ok (r,j)):WfC r/\r.length<=4:=by
 have:=clsP_wf' (λj c h=>by simp at h) h;simpa using this
theorem oY {s:ByteArray} {n:Nat}: ∀{k:Nat} {gs:List Sig} {i:Nat} {r:List Sig} {j:Nat},gH s n k gs i= .ok (r,j)->r.length<=k+gs.length:=by
 intro k
 induction k with
 |zero=>
  intro gs i r j h;unfold gH at h
  split at h
  .cases h;omega
  .cases h
 |succ k ih=>
  intro gs i r j h;unfold gH at h
  split at h
  .cases h;omega
  .split at h
   .cases h
   .split at h
    .cases h
    .split at h
     .cases h
     .have:=ih h;simp at this;omega
def gI (bs:List Bod) (x m:Int):Int:=match jC bs x m with
 |some k=>k
 |none=> -1
def cX (cs:List Cls) (x:Int):Int:=(cs[x.toNat]?.map (·.par)).getD (-1)
def cY (cs:List Cls) (bs:List Bod) (m:Int):Nat->Int->Int
 |0,_=> -1
 |f+1,x=>if x<0 then-1 else if 0<=gI bs x m then gI bs x m else cY cs bs m f (cX cs x)
def dp (cs:List Cls) (bs:List Bod) (n:Nat) (x:Ins):Bool:=
 (decide (x.op.toNat=99)&&decide (cY cs bs x.b 5 x.a<0))||((decide (x.op.toNat=106)||decide (x.op.toNat=102))&&decide (n<=x.b))
def unl (cs:List Cls) (bs:List Bod) (c:List Ins):Option Nat:=(c.find? (dp cs bs c.length)).map (·.pos)
def dQ (s:ByteArray):Except (Nat×Nat) Img:=
 if 2000<s.size then .error (1,0)else
 match ec s with
 | .error j=> .error (2,j)
 | .ok im=>
  match im.zq.findSome? (λb=>unl im.zz im.zq b.code)with
  |some p=> .error (3,p)
  |none=> .ok im
structure WfX (cs:List Cls) (ns nl:Nat) (x:Ins):Prop where
 op:cV.contains x.op.toNat=true
 pos:x.pos<=2000
 cls:x.op.toNat=110\/x.op.toNat=120\/x.op.toNat=103\/x.op.toNat=112\/x.op.toNat=99->x.a<cs.length
 fld:x.op.toNat=103\/x.op.toNat=112->x.b<bH cs x.a
 sig:x.op.toNat=99->x.b<ns
 loc:x.op.toNat=108\/x.op.toNat=115->x.b<nl
 num:x.b<100
structure WfB (cs:List Cls) (gs:List Sig) (b:Bod):Prop where
 code: ∀x∈b.code,WfX cs gs.length b.locals.length x
 len:0<b.code.length/\b.code.length<=100
 loc:b.locals.length<=5/\ ∀t∈b.locals,cZ cs.length t=true
 cls:(b.cls= -1/\b.meth= -1)\/(0<=b.cls/\b.cls<cs.length/\0<=b.meth/\b.meth<gs.length)
structure WfI (im:Img):Prop where
 cls:WfC im.zz
 nc:im.zz.length<=4
 ns:im.zj.length<=3
 sig: ∀g∈im.zj,cZ im.zz.length g.arg=true/\cZ im.zz.length g.ret=true
 bod: ∀b∈im.zq,WfB im.zz im.zj b
 nb:im.zq.length<=7
theorem iq {s:ByteArray} {i:Nat} (h:0<(pk s i).toNat):i<s.size:=by
 unfold pk at h
 split at h
 .assumption
 .simp at h
theorem fL {s:ByteArray} {n i d j:Nat} (h:ej s n i= .ok (d,j)):d<n/\d<10:=by
 unfold ej at h
 split at h
 .rename_i hd
  cases h
  simp[fd]at hd;omega
 .cases h
theorem lz {s:ByteArray} {n i d j:Nat} (h:eX s n i= .ok (d,j)):d<n:=by
 unfold eX at h
 split at h
 .rename_i hd
  cases h
  simp[aN]at hd;omega
 .cases h
theorem BL {s:ByteArray} {cs:List Cls} {ns nl i:Nat} {x:Ins} {j:Nat} (hs:s.size<=2000) (h:mz s cs ns nl i= .ok (x,j)):WfX cs ns nl x:=by
 unfold mz at h
 split at h
 .rename_i hl
  split at h
  .rename_i a b l ho
   cases h
   have hp:i<s.size:=iq (by
    obtain h|h:=Nat.eq_zero_or_pos (pk s i).toNat
    .rw[h]at hl;exact absurd hl (by decide)
    .exact h)
   refine⟨hl,by simp;omega,?_,?_,?_,?_,?_⟩
   all_goals simp only
   all_goals
    unfold bA at ho
    repeat' split at ho
   all_goals first
    | (cases ho;done)
    |skip
   all_goals (intros;first|omega|skip)
   all_goals (cases ho;first|omega| (have:=fL ‹_›;omega) | (have:=lz ‹_›;omega) | (have h1:=fL ‹ej s 10 (i+1)=_›;have h2:=fL ‹ej s 10 _=Except.ok (_,j)›;omega))
  .cases h
 .cases h
theorem sX {s:ByteArray} {cs:List Cls} {ns nl:Nat} (hs:s.size<=2000): ∀{k:Nat} {is:List Ins} {i:Nat} {r:List Ins} {j:Nat},(∀x∈is,WfX cs ns nl x)->dy s cs ns nl k is i= .ok (r,j)->(∀x∈r,WfX cs ns nl x)/\0<r.length/\r.length<=k+is.length:=by
 intro k
 induction k with
 |zero=>
  intro is i r j hw h;unfold dy at h
  split at h
  .rename_i hc;cases h;exact⟨hw,List.length_pos_iff.2 hc.2,by omega⟩
  .cases h
 |succ k ih=>
  intro is i r j hw h;unfold dy at h
  split at h
  .rename_i hc;cases h;exact⟨hw,List.length_pos_iff.2 hc.2,by omega⟩
  .split at h
   .cases h
   .rename_i x l hx
    have:=ih (λy hy=>by
     obtain hy|hy:=List.mem_append.1 hy
     .exact hw y hy
     .simp at hy;subst hy;exact BL hs hx) h
    simp at this;exact⟨this.1,this.2.1,by omega⟩
theorem sY {s:ByteArray} {n:Nat}: ∀{k:Nat} {gs:List Sig} {i:Nat} {r:List Sig} {j:Nat},(∀g∈gs,cZ n g.arg=true/\cZ n g.ret=true)->gH s n k gs i= .ok (r,j)-> ∀g∈r,cZ n g.arg=true/\cZ n g.ret=true:=by
 intro k
 induction k with
 |zero=>
  intro gs i r j hw h;unfold gH at h
  split at h
  .cases h;exact hw
  .cases h
 |succ k ih=>
  intro gs i r j hw h;unfold gH at h
  split at h
  .cases h;exact hw
  .split at h
   .cases h
   .rename_i a l1 h1
    split at h
    .cases h
    .rename_i b l2 h2
     split at h
     .cases h
     .refine ih (λg hg=> ?_) h;obtain hg|hg:=List.mem_append.1 hg
      .exact hw g hg
      .simp at hg;subst hg;unfold tyP at h1 h2
       split at h1<;>split at h2<;>first| (cases h1;done) | (cases h2;done) |skip
       cases h1
       cases h2
       exact⟨by assumption,by assumption⟩
theorem oZ {n x:Nat} (hx:x<n) (hn:n<=4):cZ n (UInt8.ofNat (65+x))=true:=by
 have:(UInt8.ofNat (65+x)).toNat=65+x:=by rw[UInt8.toNat_ofNat'];omega
 unfold cZ aN;rw[this];simp;omega
theorem BM {s:ByteArray} {cs:List Cls} {gs:List Sig} (hs:s.size<=2000) (hn:cs.length<=4) (hg: ∀g∈gs,cZ cs.length g.arg=true/\cZ cs.length g.ret=true): ∀{k:Nat} {bs:List Bod} {i:Nat} {r:List Bod} {j:Nat},(∀b∈bs,WfB cs gs b)->fU s cs gs k bs i= .ok (r,j)->(∀b∈r,WfB cs gs b)/\r.length<=k+bs.length:=by
 intro k
 induction k with
 |zero=>
  intro bs i r j hw h;unfold fU at h
  split at h
  .cases h;exact⟨hw,by omega⟩
  .cases h
 |succ k ih=>
  intro bs i r j hw h;unfold fU at h
  split at h
  .cases h;exact⟨hw,by omega⟩
  .split at h
   .cases h
   .rename_i x l1 h1
    split at h
    .cases h
    .rename_i m l2 h2
     split at h
     .cases h
     .split at h
      .cases h
      .rename_i t l3 h3
       split at h
       .cases h
       .rename_i is l4 h4
        have hx:=lz h1;have hm:=fL h2;have ht:=jd h3;have ha:=mA (by simp) h3;have hc:=sX hs (by simp) h4
        have:=ih (λb hb=>by
         obtain hb|hb:=List.mem_append.1 hb
         .exact hw b hb
         .rw[List.mem_singleton]at hb;subst hb;refine⟨hc.1,⟨hc.2.1,by simpa using hc.2.2⟩,⟨by simp at ht⊢;omega,?_⟩,Or.inr ⟨by simp,by simp;omega,by simp,by simp;omega⟩⟩;intro c a0;rw[List.mem_cons,List.mem_cons]at a0;obtain rfl|rfl|a0:=a0
          .exact oZ hx hn
          .unfold jD;rw[List.getElem?_eq_getElem (by omega)];exact(hg _ (List.getElem_mem _)).1
          .exact ha c a0) h
        simp at this;exact⟨this.1,by omega⟩
theorem mC {s:ByteArray} {im:Img} (hs:s.size<=2000) (h:ec s= .ok im):WfI im:=by
 unfold ec at h
 split at h
 .cases h
 .rename_i cs l1 h1
  split at h
  .cases h
  .rename_i gs l2 h2
   split at h
   .cases h
   .rename_i bs l3 h3
    split at h
    .cases h
    .rename_i t l4 h4
     split at h
     .cases h
     .rename_i is l5 h5
      split at h
      .cases h
      .cases h
       have hc:=rA h1;have a3:=oY h2;have a2:=sY (by simp) h2;have hb:=BM hs hc.2 a2 (by simp) h3;have ht:=jd h4;have a4:=mA (by simp) h4;have a1:=sX hs (by simp) h5;refine⟨hc.1,hc.2,by simpa using a3,a2,?_,by simp at hb⊢;omega⟩;intro b a0;simp at a0;obtain a0|rfl:=a0
       .exact hb.1 b a0
       .exact⟨a1.1,⟨a1.2.1,by simpa using a1.2.2⟩,⟨by simp at ht⊢;omega,a4⟩,Or.inl ⟨rfl,rfl⟩⟩
end Sp
section
open Go
section
variable {P:Program} {ops:Array Oper} {Q:Exit->Act->World->Prop} {S:World->Prop} {p:Nat}
def oH (P:Program) (ops:Array Oper) (Q:Exit->Act->World->Prop) (S:World->Prop) (p:Nat):Nat->Array Bool->Act->World->Prop
 |0,listed,a,w=>Region.ready .any ops listed=[]/\Q .normal a w
 |fuel+1,listed,a,w=>
  (Region.ready .any ops listed=[]->Q .normal a w)/\
  ∀i∈Region.ready .any ops listed,wpOp P ops Q i (λa' w'=>(i<p->S w')/\oH P ops Q S p fuel (listed.setIfInBounds i true) a' w') a w
theorem kN: ∀(fuel:Nat) (listed:Array Bool) (a:Act) (w:World),oH P ops Q S p fuel listed a w->wpAny P .any ops Q fuel listed a w
 |0,_,_,_,h=>h
 |fuel+1,_,_,_,h=>⟨h.1,λi hi=>wpOp_mono (λa' w' h'=>kN fuel _ a' w' h'.2) (h.2 i hi)⟩
theorem l7 {i:Nat} {oi:Oper} {v:Value} (hi:ops[i]?=some oi) (hip:i<p) (hsel: ∀(j:Nat) (o:Oper) cs b,ops[j]?=some o->o.op≠ .select cs b)
  (hwait: ∀j oj,ops[j]?=some oj->p<=j-> ∃e∈oj.after,Region.binds .any e=true/\e.on=i)
  (hQ: ∀c a w,Q (.panic c) (a.put oi.dst v) w->Q (.panic c) a w):
  ∀(fuel:Nat) (listed:Array Bool) (a:Act) (w:World),
   (∀j oj,ops[j]?=some oj->j≠i->listed.getD j true=false->(∀e∈oj.after,Region.binds .any e=true->e.on≠i)->oi.apart ops oj=true)->
   i∈Region.ready .any ops listed->YieldsIf P ops S oi v a->S w->
   oH P ops Q S p fuel (listed.setIfInBounds i true) (a.put oi.dst v) w->oH P ops Q S p (fuel+1) listed a w:=by
 intro fuel
 induction fuel with
 |zero=>
  intro listed a w _ hr hy hS H;refine⟨λh=>(by rw[h]at hr;cases hr),λj hj=> ?_⟩
  by_cases hji:j=i
  .subst hji;exact hy.wpOp hi hS ⟨λ_=>hS,H⟩
  .have:=ready_mono hj hji;rw[H.1]at this
   cases this
 |succ fuel ih=>
  intro listed a w a0 hr hy hS H;refine⟨λh=>(by rw[h]at hr;cases hr),λj hj=> ?_⟩
  by_cases hji:j=i
  .subst hji;exact hy.wpOp hi hS ⟨λ_=>hS,H⟩
  .have h1:=H.2 j (ready_mono hj hji);obtain⟨a2,oj,a4,a5⟩:=mem_ready.1 hj
   have a3: ∀e∈oj.after,Region.binds .any e=true->e.on≠i:=λe he hb heq=>by
    have h1:=a5 e he hb;have h0:=(mem_ready.1 hr).1;rw[heq]at h1;obtain h'|h':=Nat.lt_or_ge i listed.size
    .simp[h']at h0 h1;rw[h0]at h1;cases h1
    .simp[Array.getElem?_eq_none h']at h1
   have a6:j<p:=by
    obtain h|h:=Nat.lt_or_ge j p
    .exact h
    .obtain⟨e,he,hb,ho⟩:=hwait j oj a4 h;exact absurd ho (a3 e he hb)
   have h2:=wpOp_putIf a4 (a0 j oj a4 hji a2 a3) (λcs b=>hsel i oi cs b hi) (λcs b=>hsel j oj cs b a4) hQ hy h1
   have a1: ∀k ok,ops[k]?=some ok->k≠i->(listed.setIfInBounds j true).getD k true=false->
     (∀e∈ok.after,Region.binds .any e=true->e.on≠i)->oi.apart ops ok=true:=λk ok hk hki hun hno=>by
    refine a0 k ok hk hki ?_ hno
    by_cases hjk:j=k
    .subst hjk;exact a2
    .rw[getD_set_ne true hjk]at hun;exact hun
   refine wpOp_mono (λa' w' h3=>⟨h3.2.1,ih (listed.setIfInBounds j true) a' w' a1 (ready_mono hr (Ne.symm hji)) h3.1 (h3.2.1 a6) ?_⟩) h2;rw[Array.setIfInBounds_comm _ _ hji];exact h3.2.2
def gz (n k:Nat):Array Bool:=((List.range n).map λi=>decide (i<k)).toArray
theorem gW (n k:Nat):(gz n k).setIfInBounds k true=gz n (k+1):=by
 unfold gz
 apply Array.ext
 .simp
 .intro i h1 h2
  by_cases h:k=i
  .subst h;simp
  .rw[Array.getElem_setIfInBounds_ne (by simpa using h1) h];simp;omega
theorem xL (n:Nat):Array.replicate n false=gz n 0:=by
 unfold gz
 apply Array.ext
 .simp
 .intro i h1 h2;simp
def z6 (ops:Array Oper) (p k:Nat):Bool:=
 decide (k<p)&&Region.noSelect ops&&Region.free .any ops (gz ops.size k) k&&(Region.ready .any ops (gz ops.size k)).contains k&&
 (List.range ops.size).all λj=>decide (j<p)||match ops[j]? with
  |some oj=>oj.after.any λe=>Region.binds .any e&&e.on==k
  |none=>true
def jE (P:Program) (ops:Array Oper) (Q:Exit->Act->World->Prop) (S:World->Prop) (p k:Nat) (a:Act) (w:World):Prop:=
 oH P ops Q S p (ops.size-k) (gz ops.size k) a w
theorem aI {id:Nat} {a:Act} {w:World} (S:World->Prop) (p:Nat) (h:jE P ops Q S p 0 a w.drew) (hm:P.follows .mixedOrders=true:=by kernel_rfl):(Code.region id ops true).wp P Q a w:=by
 refine wp_region_any hm (kN (S:=S) (p:=p) _ _ _ _ ?_);rw[xL];exact h
theorem cH:(∀(l:List Value) (i:Nat) (v:Value),l.toArray.setIfInBounds i v=(l.set i v).toArray)/\(∀(x:Value) (l:List Value) (v:Value),(x::l).set 0 v=v::l)/\
  (∀(x:Value) (l:List Value) (n:Nat) (v:Value),(x::l).set (n+1) v=x::l.set n v):=⟨λ_ _ _=>by simp,λ_ _ _=>rfl,λ_ _ _ _=>rfl⟩
theorem eM {ops:Array Oper} {k:Nat} {o:Oper} {rest:List Oper} (h:ops.toList.drop k=o::rest):ops[k]?=some o:=by
 have h1:(ops.toList.drop k)[0]?=some o:=by rw[h];rfl
 rw[List.getElem?_drop,Nat.add_zero]at h1;simpa using h1
theorem aQ {k:Nat} {o:Oper} {rest:List Oper} {v:Value} {a:Act} {w:World} (hod:ops.toList.drop k=o::rest) (hS:S w) (hy: ∀w,S w->(execOp a.eval o).run P w= .ok (.value v) w) (h:jE P ops Q S p (k+1) (a.put o.dst v) w) (hc:z6 ops p k=true:=by kernel_rfl) (hQ: ∀c a w,Q (.panic c) (a.put o.dst v) w->Q (.panic c) a w:=by exact λ_ _ _ h=>h) (hw:Region.wanted o (yielded ops a.tmps)=true:=by exact rfl):jE P ops Q S p k a w:=by
 have ho:=eM hod;unfold z6 at hc;simp only[Bool.and_eq_true,decide_eq_true_eq,List.all_eq_true,List.mem_range]at hc;obtain⟨⟨⟨⟨a2,a3⟩,a0⟩,a4⟩,a5⟩:=hc;have hk:k<ops.size:=(Array.getElem?_eq_some_iff.1 ho).1;unfold jE at*;rw[show ops.size-k=(ops.size-(k+1))+1 from by omega];refine l7 ho a2 (Region.noSelect_spec a3) ?_ hQ _ _ a w (Region.free_spec ho a0) (by simpa using a4) (Or.inl ⟨hw,hy⟩) hS (by rw[gW];exact h);intro j oj hj a6;have a1:j<ops.size:=(Array.getElem?_eq_some_iff.1 hj).1;have:=a5 j a1;rw[hj]at this;simp only[Bool.or_eq_true,decide_eq_true_eq,Array.any_eq_true,Bool.and_eq_true,beq_iff_eq]at this
 obtain h1| ⟨i,hi,h1,h2⟩:=this
 .omega
 .exact⟨oj.after[i],Array.getElem_mem hi,h1,h2⟩
theorem az {k:Nat} {o:Oper} {rest:List Oper} {a:Act} {w:World} (hod:ops.toList.drop k=o::rest) (h: ∀K':Act->World->Prop,Go.Shut (∀a w,(k<p->S w)->jE P ops Q S p (k+1) a w->K' a w)->if Region.wanted o (yielded ops a.tmps)=true then Oper.wp P o a w K' Q else K' (a.put o.dst undef) w) (hr:Region.ready .any ops (gz ops.size k)=[k]:=by kernel_rfl):jE P ops Q S p k a w:=by
 have ho:=eM hod;have hk:k<ops.size:=(Array.getElem?_eq_some_iff.1 ho).1;unfold jE;rw[show ops.size-k=(ops.size-(k+1))+1 from by omega];refine⟨λh=>(by rw[hr]at h;cases h),λi hi=> ?_⟩;rw[hr]at hi;simp at hi;subst hi;exact wpOp_step ho (λK' hK=>h K' (λa w hS hW=>hK a w ⟨hS,by rw[gW];exact hW⟩))
theorem aR {k:Nat} {a:Act} {w:World} (hk:k=ops.size) (h:Q .normal a w) (hr:Region.ready .any ops (gz ops.size k)=[]:=by kernel_rfl):jE P ops Q S p k a w:=by
 subst hk;unfold jE;rw[Nat.sub_self];exact⟨hr,h⟩
def Aa (ops:Array Oper) (p k:Nat):Bool:=decide (p<=k)&&decide (k<=ops.size)&&decide (Region.ready .any ops (gz ops.size ops.size)=[])&&(List.range' k (ops.size-k)).all λj=>decide (Region.ready .any ops (gz ops.size j)=[j])
theorem qP: ∀(m k:Nat) (a:Act) (w:World),k+m=ops.size->p<=k->Region.ready .any ops (gz ops.size ops.size)=[]->(∀j∈List.range' k m,Region.ready .any ops (gz ops.size j)=[j])->wpOps P ops Q (List.range' k m) a w->oH P ops Q S p m (gz ops.size k) a w
 |0,k,a,w,hk,_,h0,_,h=>⟨by rw[show k=ops.size from by omega];exact h0,h⟩
 |m+1,k,a,w,hk,hp,h0,hr,h=>by
  have h1:=hr k (by simp[List.range'_succ]);rw[List.range'_succ,wpOps_cons]at h;refine⟨λe=>(by rw[h1]at e;cases e),λi hi=> ?_⟩;rw[h1,List.mem_singleton]at hi;subst hi;refine wpOp_mono (λa' w' h'=>⟨λe=>absurd e (by omega),?_⟩) h;rw[gW];exact qP m (i+1) a' w' (by omega) (by omega) h0 (λj hj=>hr j (by rw[List.range'_succ];exact List.mem_cons_of_mem _ hj)) h'
theorem iC {k:Nat} {rest:List Oper} {a:Act} {w:World} (hod:ops.toList.drop k=rest) (h:wpList P ops Q rest a w) (hc:Aa ops p k=true:=by kernel_rfl):jE P ops Q S p k a w:=by
 simp only[Aa,Bool.and_eq_true,decide_eq_true_eq,List.all_eq_true]at hc;have hl:rest.length=ops.size-k:=by rw[<-hod];simp
 rw[<-wpOps_eq_wpList (ops:=ops) rest k (λj=>by rw[<-hod,List.getElem?_drop];simp),hl]at h;exact qP _ k a w (by omega) hc.1.1.1 hc.1.2 hc.2 h
end
end
section
open Go Go.RowKit
structure But (F:Nat->Prop) (w w':World):Prop where
 os:w'.os=w.os
 tape:w'.tape=w.tape
 output:w'.output=w.output
 size:w.heap.size<=w'.heap.size
 block: ∀k,k<w.heap.size-> ¬F k->w'.heap[k]?=w.heap[k]?
theorem But.refl (F:Nat->Prop) (w:World):But F w w:=⟨rfl,rfl,rfl,Nat.le_refl _,λ_ _ _=>rfl⟩
theorem But.trans {F:Nat->Prop} {a b c:World} (h:But F a b) (k:But F b c):But F a c:=
 ⟨k.os.trans h.os,k.tape.trans h.tape,k.output.trans h.output,Nat.le_trans h.size k.size,
  λi hi hf=>(k.block i (Nat.lt_of_lt_of_le hi h.size) hf).trans (h.block i hi hf)⟩
theorem But.mono {F G:Nat->Prop} {a b:World} (h:But F a b) (hs: ∀k,k<a.heap.size->F k->G k):But G a b:=
 ⟨h.os,h.tape,h.output,h.size,λk hk hg=>h.block k hk (λhf=>hg (hs k hk hf))⟩
theorem But.next {F G:Nat->Prop} {a b c:World} (h:But G a b) (k:But F b c) (hs: ∀i,i<a.heap.size->F i->G i):But G a c:=
 ⟨k.os.trans h.os,k.tape.trans h.tape,k.output.trans h.output,Nat.le_trans h.size k.size,
  λi hi hf=>(k.block i (Nat.lt_of_lt_of_le hi h.size) (λh'=>hf (hs i hi h'))).trans (h.block i hi hf)⟩
theorem But.drewN (F:Nat->Prop) (w:World) (n:Nat):But F w (w.drewN n):=⟨rfl,rfl,rfl,Nat.le_refl _,λ_ _ _=>rfl⟩
theorem But.drew (F:Nat->Prop) (w:World):But F w w.drew:=⟨rfl,rfl,rfl,Nat.le_refl _,λ_ _ _=>rfl⟩
theorem But.alloc (F:Nat->Prop) (w:World) (o:Obj):But F w (w.alloc o):=
 ⟨rfl,rfl,rfl,by simp,λk hk _=>Below.heap_alloc _ _ _ hk⟩
theorem But.setCell {F:Nat->Prop} (w:World) {a:Addr} (ha:F a.block) (u:Value):But F w (w.setCell a u):=
 ⟨rfl,rfl,rfl,by simp[World.setCell],λk _ hf=>Below.heap_setCell _ _ _ _ (λe=>hf (e▸ha))⟩
theorem But.setB (w:World) (b j:Nat) (u:Value):But (· =b) w (w.setCell ⟨b,j,none⟩ u):=But.setCell (F:=λx=>x=b) w (a:=⟨b,j,none⟩) (by rfl) u
theorem But.cell {F:Nat->Prop} {w w':World} (h:But F w w') {p:Addr} (hp:p.block<w.heap.size) (hf: ¬F p.block):w'.cell? p=w.cell? p:=
 World.cell?_of_block (w:=w) (h.block p.block hp hf)
theorem But.frozen {F:Nat->Prop} {w w':World} (h:But F w w') {p:Addr} (hp:p.block<w.heap.size) (hf: ¬F p.block):w'.frozen? p=w.frozen? p:=
 World.frozen?_of_block (w:=w) (h.block p.block hp hf)
theorem But.toBelow {F:Nat->Prop} {B:Nat} {w w':World} (h:But F w w') (hB:B<=w.heap.size) (hF: ∀k,F k->B<=k):Below B w w':=
 ⟨h.os,h.tape,h.output,h.size,λk hk=>h.block k (by omega) (λhf=>by have:=hF k hf;omega)⟩
theorem ae {w:World} {b:Nat} {o:Obj} (h:w.heap[b]?=some o):b<w.heap.size:=by
 obtain h1|h1:=Nat.lt_or_ge b w.heap.size
 .exact h1
 .rw[Array.getElem?_eq_none h1]at h;cases h
section
variable {w w':World} {g:Nat} {t:TypeId} {fr:Nat×Nat} {l:List Value} {x0 x1 x2 x3 x4 x5 x6 x7 x8 x9 x10:Value}
theorem ce0 (h:w.heap[g]?=some (.cells (List.toArray (x0::l)) t fr)):w.cell? ⟨g,0,none⟩=some x0:=by rw[cell_of_row w g 0 _ _ _ h];rfl
theorem ce1 (h:w.heap[g]?=some (.cells (List.toArray (x0::x1::l)) t fr)):w.cell? ⟨g,1,none⟩=some x1:=by rw[cell_of_row w g 1 _ _ _ h];rfl
theorem ce2 (h:w.heap[g]?=some (.cells (List.toArray (x0::x1::x2::l)) t fr)):w.cell? ⟨g,2,none⟩=some x2:=by rw[cell_of_row w g 2 _ _ _ h];rfl
theorem ce3 (h:w.heap[g]?=some (.cells (List.toArray (x0::x1::x2::x3::l)) t fr)):w.cell? ⟨g,3,none⟩=some x3:=by rw[cell_of_row w g 3 _ _ _ h];rfl
theorem ce4 (h:w.heap[g]?=some (.cells (List.toArray (x0::x1::x2::x3::x4::l)) t fr)):w.cell? ⟨g,4,none⟩=some x4:=by rw[cell_of_row w g 4 _ _ _ h];rfl
theorem ce5 (h:w.heap[g]?=some (.cells (List.toArray (x0::x1::x2::x3::x4::x5::l)) t fr)):w.cell? ⟨g,5,none⟩=some x5:=by rw[cell_of_row w g 5 _ _ _ h];rfl
theorem ce6 (h:w.heap[g]?=some (.cells (List.toArray (x0::x1::x2::x3::x4::x5::x6::l)) t fr)):w.cell? ⟨g,6,none⟩=some x6:=by rw[cell_of_row w g 6 _ _ _ h];rfl
theorem ce7 (h:w.heap[g]?=some (.cells (List.toArray (x0::x1::x2::x3::x4::x5::x6::x7::l)) t fr)):w.cell? ⟨g,7,none⟩=some x7:=by rw[cell_of_row w g 7 _ _ _ h];rfl
theorem ce8 (h:w.heap[g]?=some (.cells (List.toArray (x0::x1::x2::x3::x4::x5::x6::x7::x8::l)) t fr)):w.cell? ⟨g,8,none⟩=some x8:=by rw[cell_of_row w g 8 _ _ _ h];rfl
theorem ce9 (h:w.heap[g]?=some (.cells (List.toArray (x0::x1::x2::x3::x4::x5::x6::x7::x8::x9::l)) t fr)):w.cell? ⟨g,9,none⟩=some x9:=by rw[cell_of_row w g 9 _ _ _ h];rfl
theorem D3 (h:w.heap[g]?=some (.cells (List.toArray (x0::x1::x2::x3::x4::x5::x6::x7::x8::x9::x10::l)) t fr)):w.cell? ⟨g,10,none⟩=some x10:=by rw[cell_of_row w g 10 _ _ _ h];rfl
theorem But.kp {o:Obj} (hB:But (λ_=>False) w w') (h:w.heap[g]?=some o):w'.heap[g]?=some o:=(hB.block g (ae h) (λh=>h)).trans h
theorem But.kc {p:Addr} {v:Option Value} (hB:But (λ_=>False) w w') (h:w.cell? p=v) (hl:p.block<w.heap.size):w'.cell? p=v:=(hB.cell hl (λh=>h)).trans h
theorem But.kz {p:Addr} {v:Bool} (hB:But (λ_=>False) w w') (h:w.frozen? p=v) (hl:p.block<w.heap.size):w'.frozen? p=v:=(hB.frozen hl (λh=>h)).trans h
theorem tf (x:Nat) (k:Int) (h:(x:Int)≠k):((x:Int)==k)=false:=by rw[beq_eq_false_iff_ne];exact h
end
def RdB (w:World) (b:Nat) (s:ByteArray) (i:Nat) (bad src:Bool) (bi:Nat) (vc vt:Value):Prop:=
 w.heap[b]?=some (.cells #[.string s,.int .i64 i,.bool bad,.bool src,.pointer (some ⟨bi,0,none⟩),vc,vt] 140)
section
variable {w:World} {b:Nat} {s:ByteArray} {i:Nat} {bad src:Bool} {bi:Nat} {vc vt:Value}
theorem RdB.lt (h:RdB w b s i bad src bi vc vt):b<w.heap.size:=ae h
theorem RdB.c0 (h:RdB w b s i bad src bi vc vt):w.cell? ⟨b,0,none⟩=some (.string s):=by rw[cell_of_row w b 0 _ _ (0,0) h];rfl
theorem RdB.c1 (h:RdB w b s i bad src bi vc vt):w.cell? ⟨b,1,none⟩=some (.int .i64 i):=by rw[cell_of_row w b 1 _ _ (0,0) h];rfl
theorem RdB.c2 (h:RdB w b s i bad src bi vc vt):w.cell? ⟨b,2,none⟩=some (.bool bad):=by rw[cell_of_row w b 2 _ _ (0,0) h];rfl
theorem RdB.c3 (h:RdB w b s i bad src bi vc vt):w.cell? ⟨b,3,none⟩=some (.bool src):=by rw[cell_of_row w b 3 _ _ (0,0) h];rfl
theorem RdB.c4 (h:RdB w b s i bad src bi vc vt):w.cell? ⟨b,4,none⟩=some (.pointer (some ⟨bi,0,none⟩)):=by rw[cell_of_row w b 4 _ _ (0,0) h];rfl
theorem RdB.c5 (h:RdB w b s i bad src bi vc vt):w.cell? ⟨b,5,none⟩=some vc:=by rw[cell_of_row w b 5 _ _ (0,0) h];rfl
theorem RdB.c6 (h:RdB w b s i bad src bi vc vt):w.cell? ⟨b,6,none⟩=some vt:=by rw[cell_of_row w b 6 _ _ (0,0) h];rfl
theorem RdB.fz (h:RdB w b s i bad src bi vc vt) (j:Nat):w.frozen? ⟨b,j,none⟩=false:=frozen_of_row w b j _ _ h
theorem RdB.drewN (h:RdB w b s i bad src bi vc vt) (n:Nat):RdB (w.drewN n) b s i bad src bi vc vt:=h
theorem RdB.but {F:Nat->Prop} {w':World} (h:RdB w b s i bad src bi vc vt) (hb:But F w w') (hf: ¬F b):RdB w' b s i bad src bi vc vt:=(hb.block b h.lt hf).trans h
theorem RdB.alloc (h:RdB w b s i bad src bi vc vt) (o:Obj):RdB (w.alloc o) b s i bad src bi vc vt:=h.but (But.alloc (λ_=>False) w o) (λh=>h)
theorem RdB.set1 (h:RdB w b s i bad src bi vc vt) (j:Nat):RdB (w.setCell ⟨b,1,none⟩ (.int .i64 j)) b s j bad src bi vc vt:=heap_setCell_same w b 1 _ _ _ h
theorem RdB.inc (h:RdB w b s i bad src bi vc vt):RdB (w.setCell ⟨b,1,none⟩ (.int .i64 ((i:Int)+1))) b s (i+1) bad src bi vc vt:=by simpa using h.set1 (i+1)
theorem RdB.set2 (h:RdB w b s i bad src bi vc vt) (d:Bool):RdB (w.setCell ⟨b,2,none⟩ (.bool d)) b s i d src bi vc vt:=heap_setCell_same w b 2 _ _ _ h
theorem RdB.set5 (h:RdB w b s i bad src bi vc vt) (v:Value):RdB (w.setCell ⟨b,5,none⟩ v) b s i bad src bi v vt:=heap_setCell_same w b 5 _ _ _ h
theorem RdB.set6 (h:RdB w b s i bad src bi vc vt) (v:Value):RdB (w.setCell ⟨b,6,none⟩ v) b s i bad src bi vc v:=heap_setCell_same w b 6 _ _ _ h
end
theorem aB {w:World} {g:Nat} (h:w.heap.size=g) (o:Obj):(w.alloc o).heap[g]?=some o:=by subst h;exact heap_alloc_new _ _
theorem bI (w:World) (a:Addr) (u:Value):(w.setCell a u).heap.size=w.heap.size:=by simp[World.setCell]
def ImB (w:World) (bi:Nat) (v0 v1 v2:Value):Prop:=w.heap[bi]?=some (.cells #[v0,v1,v2] 44)
section
variable {w:World} {bi:Nat} {v0 v1 v2:Value}
theorem ImB.lt (h:ImB w bi v0 v1 v2):bi<w.heap.size:=ae h
theorem ImB.c0 (h:ImB w bi v0 v1 v2):w.cell? ⟨bi,0,none⟩=some v0:=by rw[cell_of_row w bi 0 _ _ (0,0) h];rfl
theorem ImB.c1 (h:ImB w bi v0 v1 v2):w.cell? ⟨bi,1,none⟩=some v1:=by rw[cell_of_row w bi 1 _ _ (0,0) h];rfl
theorem ImB.c2 (h:ImB w bi v0 v1 v2):w.cell? ⟨bi,2,none⟩=some v2:=by rw[cell_of_row w bi 2 _ _ (0,0) h];rfl
theorem ImB.fz (h:ImB w bi v0 v1 v2) (j:Nat):w.frozen? ⟨bi,j,none⟩=false:=frozen_of_row w bi j _ _ h
theorem ImB.but {F:Nat->Prop} {w':World} (h:ImB w bi v0 v1 v2) (hb:But F w w') (hf: ¬F bi):ImB w' bi v0 v1 v2:=(hb.block bi h.lt hf).trans h
theorem ImB.set0 (h:ImB w bi v0 v1 v2) (v:Value):ImB (w.setCell ⟨bi,0,none⟩ v) bi v v1 v2:=heap_setCell_same w bi 0 _ _ _ h
theorem ImB.set1 (h:ImB w bi v0 v1 v2) (v:Value):ImB (w.setCell ⟨bi,1,none⟩ v) bi v0 v v2:=heap_setCell_same w bi 1 _ _ _ h
theorem ImB.set2 (h:ImB w bi v0 v1 v2) (v:Value):ImB (w.setCell ⟨bi,2,none⟩ v) bi v0 v1 v:=heap_setCell_same w bi 2 _ _ _ h
end
theorem aj {F:Nat->Prop} {w w':World} {base e size n:Nat} {v:Value} {xs:List Value} (h:w.ownsRow base e size v n xs) (hb:But F w w') (hf: ∀g,v.ownBlock=some g-> ¬F g):w'.ownsRow base e size v n xs:=by
 refine⟨h.1,?_⟩;obtain h2| ⟨g,cap,cur,hv,hg,hh,r⟩:=h.2
 .exact Or.inl h2
 .exact Or.inr ⟨g,cap,cur,hv,hg,(hb.block g (ae hh) (hf g (by rw[hv];rfl))).trans hh,r⟩
theorem ay {w:World} {base e size n:Nat} {v:Value} {xs:List Value} (h:w.ownsRow base e size v n xs): ∀g,v.ownBlock=some g->base<=g:=by
 intro g hg;obtain⟨rfl,_⟩ | ⟨g',cap,cur,rfl,hb,_⟩:=h.2
 .cases hg
 .simp[Value.ownBlock]at hg;omega
theorem aW {w:World} {base e size n:Nat} {v:Value} {xs:List Value} (h:w.ownsRow base e size v n xs): ∀g,v.ownBlock=some g->g<w.heap.size:=by
 intro g hg;obtain⟨rfl,_⟩ | ⟨g',cap,cur,rfl,hb,hh,_⟩:=h.2
 .cases hg
 .simp[Value.ownBlock]at hg;subst hg;exact ae hh
theorem df (w:World) (base e size:Nat):w.ownsRow base e size (.slice none 0 0) 0 []:=⟨by simp,Or.inl ⟨rfl,rfl⟩⟩
theorem aw {w:World} {base e size n:Nat} {v:Value} {xs:List Value} (h:w.ownsRow base e size v n xs): ∃ao cap,v= .slice ao n cap:=by
 obtain⟨rfl,rfl⟩ | ⟨g',cap,cur,rfl,_⟩:=h.2
 .exact⟨_,_,rfl⟩
 .exact⟨_,_,rfl⟩
theorem iD {w:World} {base e size n:Nat} {v:Value} {xs:List Value} (h:w.ownsRow base e size v n xs) {j:Nat} {u:Value} (hu:xs[j]?=some u):
  ∃g cap,v= .slice (some ⟨g,0,none⟩) n cap/\w.cell? ⟨g,j,none⟩=some u/\g<w.heap.size/\base<=g:=by
 obtain⟨rfl,rfl⟩ | ⟨g,cap,cur,rfl,hb,hh,_⟩:=h.2
 .have:=h.1;simp at this;subst this;simp at hu
 .refine⟨g,cap,rfl,?_,ae hh,hb⟩;have hj:j<n*size:=by rw[<-h.1];exact(List.getElem?_eq_some_iff.1 hu).1
  rw[h.cellAt j hj,hu]
theorem bc {w w':World} {row:Option Nat} (h:w.grownBy w' row):But (λk=>row=some k) w w':=
 ⟨h.os,h.tape,h.output,h.size,λk hk hf=>h.block k hk (λe=>hf e.symm)⟩
def dA (cs:List Sp.Cls):List Value:=cs.flatMap λc=> [.int .i64 c.par,.string ⟨c.fields.toArray⟩]
def dr (gs:List Sp.Sig):List Value:=gs.flatMap λg=> [.int .u8 g.arg.toNat,.int .u8 g.ret.toNat]
def dB (l:List Sp.Ins):List Value:=l.flatMap λx=> [.int .u8 x.op.toNat,.int .i64 x.a,.int .i64 x.b,.int .i64 x.pos]
theorem eY {α β:Type} (f:α->List β) (m:Nat) (hf: ∀x,(f x).length=m): ∀(l:List α) (j k:Nat) (x:α),l[j]?=some x->k<m->(l.flatMap f)[j*m+k]?=(f x)[k]?:=by
 intro l
 induction l with
 |nil=>intro j k x h _;simp at h
 |cons y l ih=>
  intro j k x h hk
  cases j with
  |zero=>
   simp at h;subst h;rw[List.flatMap_cons,Nat.zero_mul,Nat.zero_add,List.getElem?_append_left (by rw[hf];exact hk)]
  |succ j=>
   simp at h;rw[List.flatMap_cons,List.getElem?_append_right (by rw[hf,Nat.succ_mul];omega),hf];rw[show(j+1)*m+k-m=j*m+k from by rw[Nat.succ_mul];omega];exact ih j k x h hk
theorem mD {cs:List Sp.Cls} {j:Nat} {c:Sp.Cls} (h:cs[j]?=some c):(dA cs)[j*2]?=some (.int .i64 c.par):=by
 have:=eY (λc:Sp.Cls=> [Value.int .i64 c.par,.string ⟨c.fields.toArray⟩]) 2 (λ_=>rfl) cs j 0 c h (by omega);simpa[dA]using this
theorem fV {cs:List Sp.Cls} {j:Nat} {c:Sp.Cls} (h:cs[j]?=some c):(dA cs)[j*2+1]?=some (.string ⟨c.fields.toArray⟩):=by
 have:=eY (λc:Sp.Cls=> [Value.int .i64 c.par,.string ⟨c.fields.toArray⟩]) 2 (λ_=>rfl) cs j 1 c h (by omega);simpa[dA]using this
def dL (l:List (Sp.Bod×Value×Value)):List Value:=l.flatMap λx=> [.int .i64 x.1.cls,.int .i64 x.1.meth,.string ⟨x.1.locals.toArray⟩,x.2.1,x.2.2]
theorem qw (l:List (Sp.Bod×Value×Value)) (x:Sp.Bod×Value×Value):dL (l++ [x])=dL l++ [.int .i64 x.1.cls,.int .i64 x.1.meth,.string ⟨x.1.locals.toArray⟩,x.2.1,x.2.2]:=by simp[dL]
theorem gX {l:List (Sp.Bod×Value×Value)} {j k:Nat} {x:Sp.Bod×Value×Value} (h:l[j]?=some x) (hk:k<5):(dL l)[j*5+k]?=[Value.int .i64 x.1.cls,.int .i64 x.1.meth,.string ⟨x.1.locals.toArray⟩,x.2.1,x.2.2][k]?:=
 eY (λx:Sp.Bod×Value×Value=> [Value.int .i64 x.1.cls,.int .i64 x.1.meth,.string ⟨x.1.locals.toArray⟩,x.2.1,x.2.2]) 5 (λ_=>rfl) l j k x h hk
theorem fM {gs:List Sp.Sig} {j k:Nat} {g:Sp.Sig} (h:gs[j]?=some g) (hk:k<2):(dr gs)[j*2+k]?=[Value.int .u8 g.arg.toNat,.int .u8 g.ret.toNat][k]?:=
 eY (λg:Sp.Sig=> [Value.int .u8 g.arg.toNat,.int .u8 g.ret.toNat]) 2 (λ_=>rfl) gs j k g h hk
theorem ez {l:List Sp.Ins} {j k:Nat} {x:Sp.Ins} (h:l[j]?=some x) (hk:k<4):(dB l)[j*4+k]?=[Value.int .u8 x.op.toNat,.int .i64 x.a,.int .i64 x.b,.int .i64 x.pos][k]?:=
 eY (λx:Sp.Ins=> [Value.int .u8 x.op.toNat,.int .i64 x.a,.int .i64 x.b,.int .i64 x.pos]) 4 (λ_=>rfl) l j k x h hk
theorem jV {l:List (Sp.Bod×Value×Value)} {j:Nat} {x:Sp.Bod×Value×Value} (h:l[j]?=some x):(dL l)[j*5]?=some (.int .i64 x.1.cls):=gX (k:=0) h (by omega)
theorem jW {l:List (Sp.Bod×Value×Value)} {j:Nat} {x:Sp.Bod×Value×Value} (h:l[j]?=some x):(dL l)[j*5+1]?=some (.int .i64 x.1.meth):=gX (k:=1) h (by omega)
theorem mE {l:List (Sp.Bod×Value×Value)} {j:Nat} {x:Sp.Bod×Value×Value} (h:l[j]?=some x):(dL l)[j*5+2]?=some (.string ⟨x.1.locals.toArray⟩):=gX (k:=2) h (by omega)
theorem mF {l:List (Sp.Bod×Value×Value)} {j:Nat} {x:Sp.Bod×Value×Value} (h:l[j]?=some x):(dL l)[j*5+3]?=some (x.2.1):=gX (k:=3) h (by omega)
theorem mG {l:List (Sp.Bod×Value×Value)} {j:Nat} {x:Sp.Bod×Value×Value} (h:l[j]?=some x):(dL l)[j*5+4]?=some (x.2.2):=gX (k:=4) h (by omega)
theorem mH {gs:List Sp.Sig} {j:Nat} {g:Sp.Sig} (h:gs[j]?=some g):(dr gs)[j*2]?=some (.int .u8 g.arg.toNat):=fM (k:=0) h (by omega)
theorem rB {gs:List Sp.Sig} {j:Nat} {g:Sp.Sig} (h:gs[j]?=some g):(dr gs)[j*2+1]?=some (.int .u8 g.ret.toNat):=fM (k:=1) h (by omega)
theorem rC {l:List Sp.Ins} {j:Nat} {x:Sp.Ins} (h:l[j]?=some x):(dB l)[j*4]?=some (.int .u8 x.op.toNat):=ez (k:=0) h (by omega)
theorem rD {l:List Sp.Ins} {j:Nat} {x:Sp.Ins} (h:l[j]?=some x):(dB l)[j*4+1]?=some (.int .i64 x.a):=ez (k:=1) h (by omega)
theorem rE {l:List Sp.Ins} {j:Nat} {x:Sp.Ins} (h:l[j]?=some x):(dB l)[j*4+2]?=some (.int .i64 x.b):=ez (k:=2) h (by omega)
theorem rF {l:List Sp.Ins} {j:Nat} {x:Sp.Ins} (h:l[j]?=some x):(dB l)[j*4+3]?=some (.int .i64 x.pos):=ez (k:=3) h (by omega)
theorem aF {w:World} {base e size n cap:Nat} {ao:Option Addr} {xs:List Value} (h:w.ownsRow base e size (.slice ao n cap) n xs) (hn:0<n):
  ∃g,ao=some ⟨g,0,none⟩/\g<w.heap.size/\base<=g/\ ∀j u,xs[j]?=some u->w.cell? ⟨g,j,none⟩=some u:=by
 obtain⟨g,cap',hv,hb,a0⟩:=h.form hn;injection hv with h1 h2 h3;subst h1;refine⟨g,rfl,a0,hb,λj u hu=> ?_⟩;obtain⟨g',c',hv',hc,_⟩:=iD h hu;injection hv' with h1;injection h1 with h1;injection h1 with h1;subst h1;exact hc
theorem lO (cs:List Sp.Cls) (c:Sp.Cls):dA (cs++ [c])=dA cs++ [.int .i64 c.par,.string ⟨c.fields.toArray⟩]:=by simp[dA]
theorem lP (cs:List Sp.Sig) (c:Sp.Sig):dr (cs++ [c])=dr cs++ [.int .u8 c.arg.toNat,.int .u8 c.ret.toNat]:=by simp[dr]
theorem qx (cs:List Sp.Ins) (c:Sp.Ins):dB (cs++ [c])=dB cs++ [.int .u8 c.op.toNat,.int .i64 c.a,.int .i64 c.b,.int .i64 c.pos]:=by simp[dB]
theorem gJ (tl:List UInt8) (c:UInt8):(⟨tl.toArray⟩:ByteArray)++⟨#[c]⟩=⟨(tl++ [c]).toArray⟩:=by
 apply ByteArray.ext
 simp
theorem fW (l m:List UInt8):(⟨l.toArray⟩:ByteArray)++⟨m.toArray⟩=⟨(l++m).toArray⟩:=by
 apply ByteArray.ext
 simp
theorem wW (c:UInt8) (w:World):(convert 112 9 (.slice (some ⟨w.heap.size,0,none⟩) 1 1)).run prog (w.alloc (.cells #[.int .u8 c.toNat] 5))= .ok (.string ⟨#[c]⟩) (w.alloc (.cells #[.int .u8 c.toNat] 5)):=by
 refine run_convert_bytes_back (w.alloc (.cells #[.int .u8 c.toNat] 5)) 112 9 5 ⟨w.heap.size,0,none⟩ 1 [c] (by kernel_rfl) (by kernel_rfl) (by kernel_rfl) ?_;intro j hj
 match j,hj with
 |0,_=>simp[Addr.add]
theorem D4 (c d:UInt8) (w:World):(convert 112 9 (.slice (some ⟨w.heap.size,0,none⟩) 2 2)).run prog (w.alloc (.cells #[.int .u8 c.toNat,.int .u8 d.toNat] 5))= .ok (.string ⟨#[c,d]⟩) (w.alloc (.cells #[.int .u8 c.toNat,.int .u8 d.toNat] 5)):=by
 refine run_convert_bytes_back (w.alloc (.cells #[.int .u8 c.toNat,.int .u8 d.toNat] 5)) 112 9 5 ⟨w.heap.size,0,none⟩ 2 [c,d] (by kernel_rfl) (by kernel_rfl) (by kernel_rfl) ?_;intro j hj
 match j,hj with
 |0,_=>simp[Addr.add]
 |1,_=>simp[Addr.add]
theorem er (n:Int) (h1: -1000000000<=n) (h2:n<=1000000000):IntKind.i64.wrap n=n:=(IntWalk.i64_left n).trans (IntWalk.wrap64_in n ⟨by omega,by omega⟩)
theorem hid {p:Prop} (h:p):Hid p:=h
theorem mI {k:IntKind} {a b:Int} (h:a=b):Ending.returned (.int k a)= .returned (.int k b):=by rw[h]
theorem du {P:Program} {fn:Func} {R:Ending->World->Prop} {a:Act} {w:World} (v:Value) {t:Nat} (hf:fn.results=#[.tmp t]) (hd:a.defers=[]) (hc:a.tmps.getD t undef=v) (hR:R (.returned v) w):bodyPost P fn R .ret a w:=by
  refine bodyPost_ret (v:=v) ?_ hd hR;have a0:a.tmps[t]?.getD undef=v:=by simpa using hc
  simp[results,hf,a0,go_sem]
theorem gK {P:Program} {fn:Func} {R:Ending->World->Prop} {a:Act} {w:World} (hf:fn.results=#[]) (hd:a.defers=[]) (hR:R (.returned (.tuple #[])) w):bodyPost P fn R .ret a w:=by
  refine bodyPost_ret (v:= .tuple #[]) ?_ hd hR;simp[results,hf,go_sem]
end
section
open Go
section
variable {P:Program} {ops:Array Oper} {Q:Exit->Act->World->Prop} {S:World->Prop} {p:Nat}
theorem sZ {i:Nat} {oi:Oper} {v:Value} (T:Nat->Prop) (hi:ops[i]?=some oi) (hip:i<p) (hsel: ∀(j:Nat) (o:Oper) cs b,ops[j]?=some o->o.op≠ .select cs b)
  (hT1: ∀j oj,ops[j]?=some oj->p<=j->T j) (hT2: ∀j oj,ops[j]?=some oj->T j-> ∃e∈oj.after,Region.binds .any e=true/\(e.on=i\/T e.on))
  (hQ: ∀c a w,Q (.panic c) (a.put oi.dst v) w->Q (.panic c) a w):
  ∀(fuel:Nat) (listed:Array Bool) (a:Act) (w:World),(∀j,T j->listed.getD j false=false)->
   (∀j oj,ops[j]?=some oj->j≠i->listed.getD j true=false->(∀e∈oj.after,Region.binds .any e=true->e.on≠i)->oi.apart ops oj=true)->
   i∈Region.ready .any ops listed->YieldsIf P ops S oi v a->S w->
   oH P ops Q S p fuel (listed.setIfInBounds i true) (a.put oi.dst v) w->oH P ops Q S p (fuel+1) listed a w:=by
 intro fuel
 induction fuel with
 |zero=>
  intro listed a w _ _ hr hy hS H;refine⟨λh=>(by rw[h]at hr;cases hr),λj hj=> ?_⟩
  by_cases hji:j=i
  .subst hji;exact hy.wpOp hi hS ⟨λ_=>hS,H⟩
  .have:=ready_mono hj hji;rw[H.1]at this
   cases this
 |succ fuel ih=>
  intro listed a w a8 a0 hr hy hS H;refine⟨λh=>(by rw[h]at hr;cases hr),λj hj=> ?_⟩
  by_cases hji:j=i
  .subst hji;exact hy.wpOp hi hS ⟨λ_=>hS,H⟩
  .have h1:=H.2 j (ready_mono hj hji);obtain⟨a3,oj,a5,a2⟩:=mem_ready.1 hj
   have a4: ∀e∈oj.after,Region.binds .any e=true->e.on≠i:=λe he hb heq=>by
    have h1:=a2 e he hb;have h0:=(mem_ready.1 hr).1;rw[heq]at h1;obtain h'|h':=Nat.lt_or_ge i listed.size
    .simp[h']at h0 h1;rw[h0]at h1;cases h1
    .simp[Array.getElem?_eq_none h']at h1
   have b0: ¬T j:=λhT=>by
    obtain⟨e,he,hb,ho⟩:=hT2 j oj a5 hT;obtain ho|ho:=ho
    .exact a4 e he hb ho
    .have h1:=a2 e he hb;have h2:=a8 e.on ho;rw[h2]at h1
     cases h1
   have b1:j<p:=by
    obtain h|h:=Nat.lt_or_ge j p
    .exact h
    .exact absurd (hT1 j oj a5 h) b0
   have h2:=wpOp_putIf a5 (a0 j oj a5 hji a3 a4) (λcs b=>hsel i oi cs b hi) (λcs b=>hsel j oj cs b a5) hQ hy h1
   have a1: ∀k ok,ops[k]?=some ok->k≠i->(listed.setIfInBounds j true).getD k true=false->
     (∀e∈ok.after,Region.binds .any e=true->e.on≠i)->oi.apart ops ok=true:=λk ok hk hki hun hno=>by
    refine a0 k ok hk hki ?_ hno
    by_cases a6:j=k
    .subst a6;exact a3
    .rw[getD_set_ne true a6]at hun;exact hun
   have a7: ∀k,T k->(listed.setIfInBounds j true).getD k false=false:=λk hk=>by
    have a6:j≠k:=λe=>b0 (e▸hk)
    have:=a8 k hk;simpa[Array.getElem?_setIfInBounds_ne a6]using this
   refine wpOp_mono (λa' w' h3=>⟨h3.2.1,ih (listed.setIfInBounds j true) a' w' a7 a1 (ready_mono hr (Ne.symm hji)) h3.1 (h3.2.1 b1) ?_⟩) h2;rw[Array.setIfInBounds_comm _ _ hji];exact h3.2.2
def wX (ops:Array Oper) (k:Nat):List Nat:=(List.range ops.size).foldl (λL j=>match ops[j]? with
 |some oj=>if oj.after.any (λe=>Region.binds .any e&&(e.on==k||L.contains e.on))then j::L else L
 |none=>L) []
def wY (ops:Array Oper) (p k:Nat):Bool:=
 decide (k<p)&&Region.noSelect ops&&Region.free .any ops (gz ops.size k) k&&(Region.ready .any ops (gz ops.size k)).contains k&&
 ((List.range ops.size).all λj=>decide (j<p)||(wX ops k).contains j)&&
 (wX ops k).all λj=>decide (k<=j)&&match ops[j]? with
  |some oj=>oj.after.any λe=>Region.binds .any e&&(e.on==k||(wX ops k).contains e.on)
  |none=>false
theorem gL {k:Nat} {o:Oper} {rest:List Oper} {v:Value} {a:Act} {w:World} (hod:ops.toList.drop k=o::rest) (hS:S w) (hy: ∀w,S w->(execOp a.eval o).run P w= .ok (.value v) w) (h:jE P ops Q S p (k+1) (a.put o.dst v) w) (hc:wY ops p k=true:=by kernel_rfl) (hQ: ∀c a w,Q (.panic c) (a.put o.dst v) w->Q (.panic c) a w:=by exact λ_ _ _ h=>h) (hw:Region.wanted o (yielded ops a.tmps)=true:=by exact rfl):jE P ops Q S p k a w:=by
 have ho:=eM hod;unfold wY at hc;generalize wX ops k=L at hc;simp only[Bool.and_eq_true,decide_eq_true_eq,List.all_eq_true,List.mem_range]at hc;obtain⟨⟨⟨⟨⟨a2,a3⟩,a0⟩,a4⟩,a5⟩,hL⟩:=hc;have hk:k<ops.size:=(Array.getElem?_eq_some_iff.1 ho).1;unfold jE at*;rw[show ops.size-k=(ops.size-(k+1))+1 from by omega];refine sZ (λj=>j∈L) ho a2 (Region.noSelect_spec a3) ?_ ?_ hQ _ _ a w ?_ (Region.free_spec ho a0) (by simpa using a4) (Or.inl ⟨hw,hy⟩) hS (by rw[gW];exact h)
 .intro j oj hj a6;have a1:j<ops.size:=(Array.getElem?_eq_some_iff.1 hj).1;have:=a5 j a1;simp only[Bool.or_eq_true,decide_eq_true_eq]at this;obtain h1|h1:=this
  .omega
  .simpa using h1
 .intro j oj hj hT;have:=(hL j hT).2;rw[hj]at this;simp only[Array.any_eq_true,Bool.and_eq_true,Bool.or_eq_true,beq_iff_eq]at this;obtain⟨i,hi,h1,h2⟩:=this;exact⟨oj.after[i],Array.getElem_mem hi,h1,h2.imp_right (λh=>by simpa using h)⟩
 .intro j hT;have:=(hL j hT).1;obtain hj|hj:=Nat.lt_or_ge j ops.size
  .simp[gz,hj];omega
  .simp[gz,hj]
theorem s7 {i:Nat} {oi:Oper} {v:Value} (hi:ops[i]?=some oi) (hpi:p<=i) (hsel: ∀(j:Nat) (o:Oper) cs b,ops[j]?=some o->o.op≠ .select cs b)
  (hQ: ∀c a w,Q (.panic c) (a.put oi.dst v) w->Q (.panic c) a w):
  ∀(fuel:Nat) (listed:Array Bool) (a:Act) (w:World),
   (∀j oj,ops[j]?=some oj->j≠i->listed.getD j true=false->(∀e∈oj.after,Region.binds .any e=true->e.on≠i)->oi.apart ops oj=true)->
   i∈Region.ready .any ops listed->YieldsIf P ops (λ_=>True) oi v a->
   oH P ops Q S p fuel (listed.setIfInBounds i true) (a.put oi.dst v) w->oH P ops Q S p (fuel+1) listed a w:=by
 intro fuel
 induction fuel with
 |zero=>
  intro listed a w _ hr hy H;refine⟨λh=>(by rw[h]at hr;cases hr),λj hj=> ?_⟩
  by_cases hji:j=i
  .subst hji;exact hy.wpOp hi trivial ⟨λh=>by omega,H⟩
  .have:=ready_mono hj hji;rw[H.1]at this
   cases this
 |succ fuel ih=>
  intro listed a w a0 hr hy H;refine⟨λh=>(by rw[h]at hr;cases hr),λj hj=> ?_⟩
  by_cases hji:j=i
  .subst hji;exact hy.wpOp hi trivial ⟨λh=>by omega,H⟩
  .have h1:=H.2 j (ready_mono hj hji);obtain⟨a2,oj,a5,a3⟩:=mem_ready.1 hj
   have a4: ∀e∈oj.after,Region.binds .any e=true->e.on≠i:=λe he hb heq=>by
    have h1:=a3 e he hb;have h0:=(mem_ready.1 hr).1;rw[heq]at h1;obtain h'|h':=Nat.lt_or_ge i listed.size
    .simp[h']at h0 h1;rw[h0]at h1;cases h1
    .simp[Array.getElem?_eq_none h']at h1
   have h2:=wpOp_putIf a5 (a0 j oj a5 hji a2 a4) (λcs b=>hsel i oi cs b hi) (λcs b=>hsel j oj cs b a5) hQ hy h1
   have a1: ∀k ok,ops[k]?=some ok->k≠i->(listed.setIfInBounds j true).getD k true=false->
     (∀e∈ok.after,Region.binds .any e=true->e.on≠i)->oi.apart ops ok=true:=λk ok hk hki hun hno=>by
    refine a0 k ok hk hki ?_ hno
    by_cases hjk:j=k
    .subst hjk;exact a2
    .rw[getD_set_ne true hjk]at hun;exact hun
   refine wpOp_mono (λa' w' h3=>⟨h3.2.1,ih (listed.setIfInBounds j true) a' w' a1 (ready_mono hr (Ne.symm hji)) h3.1 ?_⟩) h2;rw[Array.setIfInBounds_comm _ _ hji];exact h3.2.2
def wZ (ops:Array Oper) (p k:Nat):Bool:=
 decide (p<=k)&&decide (k<ops.size)&&Region.noSelect ops&&Region.free .any ops (gz ops.size k) k&&(Region.ready .any ops (gz ops.size k)).contains k
theorem o7 {k:Nat} {o:Oper} {rest:List Oper} {v:Value} {a:Act} {w:World} (hod:ops.toList.drop k=o::rest) (hy: ∀w,(execOp a.eval o).run P w= .ok (.value v) w) (h:jE P ops Q S p (k+1) (a.put o.dst v) w) (hc:wZ ops p k=true:=by kernel_rfl) (hQ: ∀c a w,Q (.panic c) (a.put o.dst v) w->Q (.panic c) a w:=by exact λ_ _ _ h=>h) (hw:Region.wanted o (yielded ops a.tmps)=true:=by exact rfl):jE P ops Q S p k a w:=by
 have ho:=eM hod;unfold wZ at hc;simp only[Bool.and_eq_true,decide_eq_true_eq]at hc;obtain⟨⟨⟨⟨a1,hk⟩,a2⟩,a0⟩,a3⟩:=hc;unfold jE at*;rw[show ops.size-k=(ops.size-(k+1))+1 from by omega];exact s7 ho a1 (Region.noSelect_spec a2) hQ _ _ a w (Region.free_spec ho a0) (by simpa using a3) (Or.inl ⟨hw,λw _=>hy w⟩) (by rw[gW];exact h)
def has (n:Nat) (L:List Nat):Array Bool:=((List.range n).map λi=>L.contains i).toArray
theorem jX (n k:Nat) (L:List Nat):(has n L).setIfInBounds k true=has n (k::L):=by
 unfold has
 apply Array.ext
 .simp
 .intro i h1 h2
  by_cases h:k=i
  .subst h;simp
  .rw[Array.getElem_setIfInBounds_ne (by simpa using h1) h];have h': ¬i=k:=λe=>h e.symm
   simp[h']
theorem BN (n:Nat):Array.replicate n false=has n []:=by
 unfold has
 apply Array.ext
 .simp
 .intro i h1 h2;simp
def rG (ops:Array Oper) (p:Nat) (L:List Nat) (k:Nat):Bool:=
 decide (k<p)&&Region.noSelect ops&&Region.free .any ops (has ops.size L) k&&(Region.ready .any ops (has ops.size L)).contains k&&
 (List.range ops.size).all λj=>decide (j<p)||match ops[j]? with
  |some oj=>oj.after.any λe=>Region.binds .any e&&e.on==k
  |none=>true
def wpP (P:Program) (ops:Array Oper) (Q:Exit->Act->World->Prop) (S:World->Prop) (p:Nat) (L:List Nat) (a:Act) (w:World):Prop:=
 oH P ops Q S p (ops.size-L.length) (has ops.size L) a w
theorem dv {id:Nat} {a:Act} {w:World} (S:World->Prop) (p:Nat) (h:wpP P ops Q S p [] a w.drew) (hm:P.follows .mixedOrders=true:=by kernel_rfl):(Code.region id ops true).wp P Q a w:=by
 refine wp_region_any hm (kN (S:=S) (p:=p) _ _ _ _ ?_);rw[BN];exact h
theorem iL {k:Nat} {L:List Nat} {o:Oper} {v:Value} {a:Act} {w:World} (ho:ops[k]?=some o) (hS:S w) (hy: ∀w,S w->(execOp a.eval o).run P w= .ok (.value v) w) (h:wpP P ops Q S p (k::L) (a.put o.dst v) w) (hl:L.length<ops.size:=by decide) (hc:rG ops p L k=true:=by kernel_rfl) (hQ: ∀c a w,Q (.panic c) (a.put o.dst v) w->Q (.panic c) a w:=by exact λ_ _ _ h=>h) (hw:Region.wanted o (yielded ops a.tmps)=true:=by exact rfl):wpP P ops Q S p L a w:=by
 unfold rG at hc;simp only[Bool.and_eq_true,decide_eq_true_eq,List.all_eq_true,List.mem_range]at hc;obtain⟨⟨⟨⟨a2,a3⟩,a0⟩,a4⟩,a5⟩:=hc;unfold wpP at*;rw[show ops.size-L.length=(ops.size-(k::L).length)+1 from by simp;omega];refine l7 ho a2 (Region.noSelect_spec a3) ?_ hQ _ _ a w (Region.free_spec ho a0) (by simpa using a4) (Or.inl ⟨hw,hy⟩) hS (by rw[jX];exact h);intro j oj hj a6;have a1:j<ops.size:=(Array.getElem?_eq_some_iff.1 hj).1;have:=a5 j a1;rw[hj]at this;simp only[Bool.or_eq_true,decide_eq_true_eq,Array.any_eq_true,Bool.and_eq_true,beq_iff_eq]at this;obtain h1| ⟨i,hi,h1,h2⟩:=this
 .omega
 .exact⟨oj.after[i],Array.getElem_mem hi,h1,h2⟩
theorem aG {k:Nat} {L:List Nat} {o:Oper} {a:Act} {w:World} (ho:ops[k]?=some o) (h: ∀K':Act->World->Prop,Go.Shut (∀a w,(k<p->S w)->wpP P ops Q S p (k::L) a w->K' a w)->if Region.wanted o (yielded ops a.tmps)=true then Oper.wp P o a w K' Q else K' (a.put o.dst undef) w) (hl:L.length<ops.size:=by decide) (hr:Region.ready .any ops (has ops.size L)=[k]:=by kernel_rfl):wpP P ops Q S p L a w:=by
 unfold wpP;rw[show ops.size-L.length=(ops.size-(k::L).length)+1 from by simp;omega];refine⟨λh=>(by rw[hr]at h;cases h),λi hi=> ?_⟩;rw[hr]at hi;simp at hi;subst hi;exact wpOp_step ho (λK' hK=>h K' (λa w hS hW=>hK a w ⟨hS,by rw[jX];exact hW⟩))
theorem jY {k1 k2:Nat} {L:List Nat} {o1 o2:Oper} {a:Act} {w:World} (ho1:ops[k1]?=some o1) (ho2:ops[k2]?=some o2) (hl:L.length<ops.size) (hr:Region.ready .any ops (has ops.size L)=[k1,k2])
  (h1: ∀K':Act->World->Prop,Go.Shut (∀a w,(k1<p->S w)->wpP P ops Q S p (k1::L) a w->K' a w)->if Region.wanted o1 (yielded ops a.tmps)=true then Oper.wp P o1 a w K' Q else K' (a.put o1.dst undef) w)
  (h2: ∀K':Act->World->Prop,Go.Shut (∀a w,(k2<p->S w)->wpP P ops Q S p (k2::L) a w->K' a w)->if Region.wanted o2 (yielded ops a.tmps)=true then Oper.wp P o2 a w K' Q else K' (a.put o2.dst undef) w):wpP P ops Q S p L a w:=by
 unfold wpP;rw[show ops.size-L.length=(ops.size-(L.length+1))+1 from by omega];refine⟨λh=>(by rw[hr]at h;cases h),λi hi=> ?_⟩;rw[hr]at hi;simp only[List.mem_cons,List.not_mem_nil,or_false]at hi;obtain rfl|rfl:=hi
 .exact wpOp_step ho1 (λK' hK=>h1 K' (λa w hS hW=>hK a w ⟨hS,by rw[jX];exact hW⟩))
 .exact wpOp_step ho2 (λK' hK=>h2 K' (λa w hS hW=>hK a w ⟨hS,by rw[jX];exact hW⟩))
theorem xM {k1 k2 k3:Nat} {L:List Nat} {o1 o2 o3:Oper} {a:Act} {w:World} (ho1:ops[k1]?=some o1) (ho2:ops[k2]?=some o2) (ho3:ops[k3]?=some o3) (hl:L.length<ops.size) (hr:Region.ready .any ops (has ops.size L)=[k1,k2,k3])
  (h1: ∀K':Act->World->Prop,Go.Shut (∀a w,(k1<p->S w)->wpP P ops Q S p (k1::L) a w->K' a w)->if Region.wanted o1 (yielded ops a.tmps)=true then Oper.wp P o1 a w K' Q else K' (a.put o1.dst undef) w)
  (h2: ∀K':Act->World->Prop,Go.Shut (∀a w,(k2<p->S w)->wpP P ops Q S p (k2::L) a w->K' a w)->if Region.wanted o2 (yielded ops a.tmps)=true then Oper.wp P o2 a w K' Q else K' (a.put o2.dst undef) w)
  (h3: ∀K':Act->World->Prop,Go.Shut (∀a w,(k3<p->S w)->wpP P ops Q S p (k3::L) a w->K' a w)->if Region.wanted o3 (yielded ops a.tmps)=true then Oper.wp P o3 a w K' Q else K' (a.put o3.dst undef) w):wpP P ops Q S p L a w:=by
 unfold wpP;rw[show ops.size-L.length=(ops.size-(L.length+1))+1 from by omega];refine⟨λh=>(by rw[hr]at h;cases h),λi hi=> ?_⟩;rw[hr]at hi;simp only[List.mem_cons,List.not_mem_nil,or_false]at hi;obtain rfl|rfl|rfl:=hi
 .exact wpOp_step ho1 (λK' hK=>h1 K' (λa w hS hW=>hK a w ⟨hS,by rw[jX];exact hW⟩))
 .exact wpOp_step ho2 (λK' hK=>h2 K' (λa w hS hW=>hK a w ⟨hS,by rw[jX];exact hW⟩))
 .exact wpOp_step ho3 (λK' hK=>h3 K' (λa w hS hW=>hK a w ⟨hS,by rw[jX];exact hW⟩))
def C7 (P:Program) (ops:Array Oper) (Q:Exit->Act->World->Prop) (S:World->Prop) (p:Nat) (_ L:List Nat) (a:Act) (w:World):Prop:=wpP P ops Q S p L a w
theorem dg {L:List Nat} {a:Act} {w:World} (ks:List Nat) (h:C7 P ops Q S p ks L a w):wpP P ops Q S p L a w:=h
theorem dw {k:Nat} {ks L:List Nat} {o:Oper} {v:Value} {a:Act} {w:World} (ho:ops[k]?=some o) (hS:S w) (hy: ∀w,S w->(execOp a.eval o).run P w= .ok (.value v) w) (h:C7 P ops Q S p ks (k::L) (a.put o.dst v) w) (hl:L.length<ops.size:=by decide) (hc:rG ops p L k=true:=by kernel_rfl)
  (hQ: ∀c a w,Q (.panic c) (a.put o.dst v) w->Q (.panic c) a w:=by exact λ_ _ _ h=>h) (hw:Region.wanted o (yielded ops a.tmps)=true:=by exact rfl):C7 P ops Q S p (k::ks) L a w:=iL ho hS hy h hl hc hQ hw
theorem dl {L:List Nat} {a:Act} {w:World} (hl:L.length=ops.size) (h:Q .normal a w) (hr:Region.ready .any ops (has ops.size L)=[]:=by kernel_rfl):wpP P ops Q S p L a w:=by
 unfold wpP;rw[hl,Nat.sub_self];exact⟨hr,h⟩
def rH (P:Program) (ops:Array Oper) (Q:Exit->Act->World->Prop) (S:World->Prop) (p q k:Nat) (a:Act) (w:World):Prop:=
 oH P ops Q S p (ops.size-(k+1)) ((gz ops.size k).setIfInBounds q true) a w
theorem xP {k q:Nat} {o oq:Oper} {rest restq:List Oper} {a:Act} {w:World} (hod:ops.toList.drop k=o::rest) (hodq:ops.toList.drop q=oq::restq)
  (hr:Region.ready .any ops (gz ops.size k)=[k,q])
  (h: ∀K':Act->World->Prop,Go.Shut (∀a w,(k<p->S w)->jE P ops Q S p (k+1) a w->K' a w)->if Region.wanted o (yielded ops a.tmps)=true then Oper.wp P o a w K' Q else K' (a.put o.dst undef) w)
  (h2: ∀K':Act->World->Prop,Go.Shut (∀a w,(q<p->S w)->rH P ops Q S p q k a w->K' a w)->if Region.wanted oq (yielded ops a.tmps)=true then Oper.wp P oq a w K' Q else K' (a.put oq.dst undef) w):
  jE P ops Q S p k a w:=by
 have ho:=eM hod;have a0:=eM hodq;have hk:k<ops.size:=(Array.getElem?_eq_some_iff.1 ho).1;unfold jE;rw[show ops.size-k=(ops.size-(k+1))+1 from by omega];refine⟨λh=>(by rw[hr]at h;cases h),λi hi=> ?_⟩;rw[hr]at hi;simp only[List.mem_cons,List.not_mem_nil,or_false]at hi;obtain rfl|rfl:=hi
 .exact wpOp_step ho (λK' hK=>h K' (λa w hS hW=>hK a w ⟨hS,by rw[gW];exact hW⟩))
 .exact wpOp_step a0 (λK' hK=>h2 K' (λa w hS hW=>hK a w ⟨hS,hW⟩))
theorem mJ (n k q:Nat) (h:k≠q):((gz n k).setIfInBounds q true).setIfInBounds k true=(gz n (k+1)).setIfInBounds q true:=by
 rw[Array.setIfInBounds_comm _ _ (Ne.symm h),gW]
theorem xQ {k q:Nat} {o:Oper} {rest:List Oper} {a:Act} {w:World} (hod:ops.toList.drop k=o::rest) (h: ∀K':Act->World->Prop,Go.Shut (∀a w,(k<p->S w)->rH P ops Q S p q (k+1) a w->K' a w)->if Region.wanted o (yielded ops a.tmps)=true then Oper.wp P o a w K' Q else K' (a.put o.dst undef) w) (hkq:(decide (k<q)&&decide (k+1<ops.size))=true:=by kernel_rfl) (hr:Region.ready .any ops ((gz ops.size k).setIfInBounds q true)=[k]:=by kernel_rfl):rH P ops Q S p q k a w:=by
 have ho:=eM hod;simp only[Bool.and_eq_true,decide_eq_true_eq]at hkq;unfold rH;rw[show ops.size-(k+1)=(ops.size-(k+1+1))+1 from by omega];refine⟨λh=>(by rw[hr]at h;cases h),λi hi=> ?_⟩;rw[hr]at hi;simp at hi;subst hi;exact wpOp_step ho (λK' hK=>h K' (λa w hS hW=>hK a w ⟨hS,by rw[mJ _ _ _ (by omega)];exact hW⟩))
def xb (ops:Array Oper) (p q k:Nat):Bool:=
 decide (k<q)&&decide (k+1<ops.size)&&decide (k<p)&&Region.noSelect ops&&Region.free .any ops ((gz ops.size k).setIfInBounds q true) k&&(Region.ready .any ops ((gz ops.size k).setIfInBounds q true)).contains k&&
 (List.range ops.size).all λj=>decide (j<p)||match ops[j]? with
  |some oj=>oj.after.any λe=>Region.binds .any e&&e.on==k
  |none=>true
theorem xR {k q:Nat} {o:Oper} {rest:List Oper} {v:Value} {a:Act} {w:World} (hod:ops.toList.drop k=o::rest) (hS:S w) (hy: ∀w,S w->(execOp a.eval o).run P w= .ok (.value v) w) (h:rH P ops Q S p q (k+1) (a.put o.dst v) w) (hc:xb ops p q k=true:=by kernel_rfl) (hQ: ∀c a w,Q (.panic c) (a.put o.dst v) w->Q (.panic c) a w:=by exact λ_ _ _ h=>h) (hw:Region.wanted o (yielded ops a.tmps)=true:=by exact rfl):rH P ops Q S p q k a w:=by
 have ho:=eM hod;unfold xb at hc;simp only[Bool.and_eq_true,decide_eq_true_eq,List.all_eq_true,List.mem_range]at hc;obtain⟨⟨⟨⟨⟨⟨a6,a7⟩,a2⟩,a3⟩,a0⟩,a4⟩,a5⟩:=hc;unfold rH at*;rw[show ops.size-(k+1)=(ops.size-(k+1+1))+1 from by omega];refine l7 ho a2 (Region.noSelect_spec a3) ?_ hQ _ _ a w (Region.free_spec ho a0) (by simpa using a4) (Or.inl ⟨hw,hy⟩) hS (by rw[mJ _ _ _ (by omega)];exact h);intro j oj hj a8;have a1:j<ops.size:=(Array.getElem?_eq_some_iff.1 hj).1;have:=a5 j a1;rw[hj]at this;simp only[Bool.or_eq_true,decide_eq_true_eq,Array.any_eq_true,Bool.and_eq_true,beq_iff_eq]at this;obtain h1| ⟨i,hi,h1,h2⟩:=this
 .omega
 .exact⟨oj.after[i],Array.getElem_mem hi,h1,h2⟩
theorem xS {q:Nat} {a:Act} {w:World} (h:jE P ops Q S p (q+1) a w):rH P ops Q S p q q a w:=by
 unfold rH;rw[gW];exact h
end
end
section
open Go Go.RowKit
abbrev ag:= @But.alloc
abbrev au:= @But.setB
abbrev aD:= @But.drew
abbrev aK:= @But.drewN
abbrev aH:= @List.getElem?_eq_getElem
theorem bC {α:Type _} {l:List α} {i:Nat} {a:α} (h:l[i]?=some a): ∃h:i<l.length,l[i]=a:=List.getElem?_eq_some_iff.1 h
abbrev bp:= @List.mem_of_getElem?
abbrev aZ:= @List.length_append
abbrev cP:= @List.length_map
abbrev co:= @List.getD_eq_getElem?_getD
abbrev cg:= @List.getElem?_map
abbrev cN:= @List.getElem_mem
abbrev bq:= @Nat.lt_of_lt_of_le
abbrev aO:= @heap_alloc_new
abbrev bG:= @heap_setCell_same
abbrev aX:= @cell_of_row
abbrev b7:= @frozen_of_row
abbrev fX:= @World.news_of_block
abbrev eA:= @beq_eq_false_iff_ne
abbrev dn:= @World.ownsRow.mono
abbrev cW:= @bodyPost_ret
abbrev fN:= @List.getElem?_append_left
abbrev ed:= @decide_eq_true_eq
abbrev et:= @Bool.and_eq_true
abbrev dj:= @Bool.false_eq_true
abbrev dG:= @Go.wp_at_zero
abbrev dH:= @Go.wp_at_succ
abbrev iM:= @List.take_succ_eq_append_getElem
abbrev dM:= @List.length_singleton
abbrev b8:= @Nat.le_refl
theorem bS {a b:UInt8} (h:a.toNat=b.toNat):a=b:=UInt8.toNat_inj.1 h
end
section
open Go
abbrev S_ : Value := .slice none 0 0
abbrev B_ := But (λ_ => False)
abbrev L_ := List UInt8
end
end Go.Proofs.YtpfkkmacakjmbaaGreatDoor
