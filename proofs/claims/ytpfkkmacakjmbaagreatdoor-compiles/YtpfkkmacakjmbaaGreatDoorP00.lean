import Derived.Deep.Onto
import Derived.OrdersHeld
import Derived.Deep.RegionHeld3
import Derived.Deep.AppendLies
import Derived.Test.YtpfkkmacakjmbaaGreatDoorProg
import Derived.WalkKit
import Derived.WalkSpells
import Derived.Deep.QuietTactic
import Derived.BigQuiet
import Derived.Deep.LoopGhost
import Derived.Deep.DrawnRows
set_option maxRecDepth 100000
set_option maxHeartbeats 6400000
set_option linter.all false
namespace Go.Proofs.YtpfkkmacakjmbaaGreatDoor
open Proofs.Tryz
namespace Sp
structure Cls where
 par:Int
 fields:List UInt8
structure Sig where
 arg:UInt8
 ret:UInt8
structure Ins where
 op:UInt8
 a:Nat
 b:Nat
 pos:Nat
structure Bod where
 cls:Int
 meth:Int
 zy:List UInt8
 code:List Ins
structure Img where
 zq:List Cls
 zx:List Sig
 zj:List Bod
def pk (s:ByteArray) (i:Nat):UInt8:=if h:i<s.size then s[i]else 0
def aK (n:Nat) (c:UInt8):Bool:=decide (65<=c.toNat)&&decide (c.toNat<65+n)
def gO (n:Nat) (c:UInt8):Bool:=decide (48<=c.toNat)&&decide (c.toNat<=57)&&decide (c.toNat<48+n)
def cw (n:Nat) (c:UInt8):Bool:=decide (c.toNat=105)||aK n c
def tys (s:ByteArray) (n:Nat) (e:UInt8):Nat->List UInt8->Nat->Except Nat (List UInt8×Nat)
 |0,t,i=>if pk s i=e then .ok (t,i+1)else .error i
 |k+1,t,i=>if pk s i=e then .ok (t,i+1)else if cw n (pk s i)=true then tys s n e k (t++ [pk s i]) (i+1)else .error i
def mH (s:ByteArray) (c:UInt8) (i:Nat):Except Nat Nat:=if pk s i=c then .ok (i+1)else .error i
def fj (s:ByteArray) (n i:Nat):Except Nat (Nat×Nat):=if aK n (pk s i)=true then .ok ((pk s i).toNat-65,i+1)else .error i
def eB (s:ByteArray) (n i:Nat):Except Nat (Nat×Nat):=if gO n (pk s i)=true then .ok ((pk s i).toNat-48,i+1)else .error i
def tyP (s:ByteArray) (n i:Nat):Except Nat (UInt8×Nat):=if cw n (pk s i)=true then .ok (pk s i,i+1)else .error i
def inh (cs:List Cls) (p:Int):List UInt8:=if p<0 then []else(cs[p.toNat]?.map (·.fields)).getD []
def jY (s:ByteArray) (n i:Nat):Except Nat (Int×Nat):=
 if(pk s i).toNat=45 then .ok (-1,i+1)else
 match fj s n i with
 | .ok (p,j)=> .ok ((p:Int),j)
 | .error j=> .error j
def dR (s:ByteArray):Nat->List Cls->Nat->Except Nat (List Cls×Nat)
 |0,cs,i=>if(pk s i).toNat=59 then .ok (cs,i+1)else .error i
 |k+1,cs,i=>if(pk s i).toNat=59 then .ok (cs,i+1)else
  match jY s cs.length i with
  | .error j=> .error j
  | .ok (p,j)=>
   match tys s (cs.length+1) 46 2 [] j with
   | .error l=> .error l
   | .ok (own,l)=>dR s k (cs++ [⟨p,inh cs p++own⟩]) l
def fk (s:ByteArray) (n:Nat):Nat->List Sig->Nat->Except Nat (List Sig×Nat)
 |0,gs,i=>if(pk s i).toNat=59 then .ok (gs,i+1)else .error i
 |k+1,gs,i=>if(pk s i).toNat=59 then .ok (gs,i+1)else
  match tyP s n i with
  | .error j=> .error j
  | .ok (a,j)=>
   match tyP s n j with
   | .error l=> .error l
   | .ok (b,l)=>
    match mH s 46 l with
    | .error m=> .error m
    | .ok m=>fk s n k (gs++ [⟨a,b⟩]) m
def bB (cs:List Cls) (a:Nat):Nat:=((cs[a]?.map (·.fields)).getD []).length
def ba (s:ByteArray) (cs:List Cls) (ns nl:Nat) (c i:Nat):Except Nat (Nat×Nat×Nat):=
 if c=108\/c=115 then
  match eB s nl i with
  | .ok (b,j)=> .ok (0,b,j)
  | .error j=> .error j
 else if c=107 then
  match eB s 10 i with
  | .ok (b,j)=> .ok (0,b,j)
  | .error j=> .error j
 else if c=110\/c=120 then
  match fj s cs.length i with
  | .ok (a,j)=> .ok (a,0,j)
  | .error j=> .error j
 else if c=103\/c=112 then
  match fj s cs.length i with
  | .error j=> .error j
  | .ok (a,j)=>
   match eB s (bB cs a) j with
   | .ok (b,l)=> .ok (a,b,l)
   | .error l=> .error l
 else if c=99 then
  match fj s cs.length i with
  | .error j=> .error j
  | .ok (a,j)=>
   match eB s ns j with
   | .ok (b,l)=> .ok (a,b,l)
   | .error l=> .error l
 else if c=106\/c=102 then
  match eB s 10 i with
  | .error j=> .error j
  | .ok (a,j)=>
   match eB s 10 j with
   | .ok (b,l)=> .ok (0,10*a+b,l)
   | .error l=> .error l
 else .ok (0,0,i)
def cE:List Nat:=[107,114,119,108,115,43,45,42,47,60,61,101,110,122,103,112,99,120,100,106,102,116]
def oI (s:ByteArray) (cs:List Cls) (ns nl i:Nat):Except Nat (Ins×Nat):=
 if cE.contains (pk s i).toNat=true then
  match ba s cs ns nl (pk s i).toNat (i+1)with
  | .ok (a,b,j)=> .ok (⟨pk s i,a,b,i⟩,j)
  | .error j=> .error j
 else .error i
def eD (s:ByteArray) (cs:List Cls) (ns nl:Nat):Nat->List Ins->Nat->Except Nat (List Ins×Nat)
 |0,is,i=>if(pk s i).toNat=46/\is≠ []then .ok (is,i+1)else .error i
 |k+1,is,i=>if(pk s i).toNat=46/\is≠ []then .ok (is,i+1)else
  match oI s cs ns nl i with
  | .error j=> .error j
  | .ok (x,j)=>eD s cs ns nl k (is++ [x]) j
def ia (bs:List Bod) (x m:Int):Option Nat:=bs.findIdx? λb=>b.cls==x&&b.meth==m
def ib (gs:List Sig) (m:Nat):UInt8:=(gs[m]?.map (·.arg)).getD 0
def iR (s:ByteArray) (cs:List Cls) (gs:List Sig):Nat->List Bod->Nat->Except Nat (List Bod×Nat)
 |0,bs,i=>if(pk s i).toNat=59 then .ok (bs,i+1)else .error i
 |k+1,bs,i=>if(pk s i).toNat=59 then .ok (bs,i+1)else
  match fj s cs.length i with
  | .error j=> .error j
  | .ok (x,j)=>
   match eB s gs.length j with
   | .error l=> .error l
   | .ok (m,l)=>
    if(ia bs x m).isSome=true then .error j else
    match tys s cs.length 58 3 [] l with
    | .error p=> .error p
    | .ok (t,p)=>
     match eD s cs gs.length (t.length+2) 100 [] p with
     | .error q=> .error q
     | .ok (is,q)=>iR s cs gs k (bs++ [⟨x,m,UInt8.ofNat (65+x)::ib gs m::t,is⟩]) q
def gP (s:ByteArray):Except Nat Img:=
 match dR s 4 [] 0 with
 | .error i=> .error i
 | .ok (cs,i)=>
  match fk s cs.length 3 [] i with
  | .error j=> .error j
  | .ok (gs,j)=>
   match iR s cs gs 6 [] j with
   | .error l=> .error l
   | .ok (bs,l)=>
    match tys s cs.length 58 3 [] l with
    | .error p=> .error p
    | .ok (t,p)=>
     match eD s cs gs.length t.length 100 [] p with
     | .error q=> .error q
     | .ok (is,q)=>if q<s.size then .error q else .ok ⟨cs,gs,bs++ [⟨-1,-1,t,is⟩]⟩
theorem fL {s:ByteArray} {n:Nat} {e:UInt8}: ∀{k:Nat} {t:List UInt8} {i:Nat} {r:List UInt8} {j:Nat},tys s n e k t i= .ok (r,j)->r.length<=k+t.length:=by
 intro k
 induction k with
 |zero=>
  intro t i r j h;unfold tys at h
  split at h
  .cases h;omega
  .cases h
 |succ k ih=>
  intro t i r j h;unfold tys at h
  split at h
  .cases h;omega
  .split at h
   .have:=ih h;simp at this;omega
   .cases h
theorem j8 {s:ByteArray} {n:Nat} {e:UInt8}: ∀{k:Nat} {t:List UInt8} {i:Nat} {r:List UInt8} {j:Nat},(∀c∈t,cw n c=true)->tys s n e k t i= .ok (r,j)-> ∀c∈r,cw n c=true:=by
 intro k
 induction k with
 |zero=>
  intro t i r j ht h;unfold tys at h
  split at h
  .cases h;exact ht
  .cases h
 |succ k ih=>
  intro t i r j ht h;unfold tys at h
  split at h
  .cases h;exact ht
  .split at h
   .refine ih ?_ h;intro c hc;obtain hc|hc:=List.mem_append.1 hc
    .exact ht c hc
    .simp at hc;subst hc;assumption
   .cases h
def WfC (cs:List Cls):Prop:= ∀(j:Nat) (c:Cls),cs[j]?=some c-> -1<=c.par/\c.par<j/\c.fields.length<=2*(j+1)/\ ∀t∈c.fields,cw (j+1) t=true
theorem iB {n m:Nat} {c:UInt8} (h:n<=m) (hc:cw n c=true):cw m c=true:=by
 simp only[cw,aK,Bool.or_eq_true,Bool.and_eq_true,decide_eq_true_eq]at*;omega
theorem pT {s:ByteArray} {n i:Nat} {p:Int} {j:Nat} (h:jY s n i= .ok (p,j)):j=i+1/\((p= -1/\(pk s i).toNat=45)\/((pk s i).toNat≠45/\aK n (pk s i)=true/\p=(((pk s i).toNat-65:Nat):Int))):=by
 unfold jY fj at h
 split at h
 .cases h;exact⟨rfl,Or.inl ⟨rfl,by assumption⟩⟩
 .split at h
  .rename_i hh
   split at hh
   .cases hh;cases h;exact⟨rfl,Or.inr ⟨by assumption,by assumption,rfl⟩⟩
   .cases hh
  .cases h
theorem AU {cs:List Cls} {n:Nat} {c:Cls} (h:cs[n]?=some c):inh cs (n:Int)=c.fields:=by
 unfold inh;rw[if_neg (by omega),Int.toNat_natCast,h]
 rfl
theorem CN {cs:List Cls} (h:WfC cs) (p:Int):(inh cs p).length<=2*cs.length:=by
 unfold inh
 split
 .simp
 .cases hc:cs[p.toNat]? with
  |none=>simp
  |some c=>
   have a:=(List.getElem?_eq_some_iff.1 hc).1;have b:=(h _ _ hc).2.2.1;simp;omega
theorem nw {s:ByteArray} {cs:List Cls} {p:Int} {i j l:Nat} {own:List UInt8} (h:WfC cs) (hp:jY s cs.length i= .ok (p,j)) (ho:tys s (cs.length+1) 46 2 [] j= .ok (own,l)):
  WfC (cs++ [⟨p,inh cs p++own⟩]):=by
 intro k c hc;obtain hk|hk:=Nat.lt_or_ge k cs.length
 .rw[List.getElem?_append_left hk]at hc;exact h k c hc
 .rw[List.getElem?_append_right hk]at hc
  have a:k-cs.length=0:=by
   have:=(List.getElem?_eq_some_iff.1 hc).1;simp at this;omega
  have b:k=cs.length:=by omega
  rw[a]at hc;simp at hc;subst hc;subst b;obtain⟨_,hp⟩:=pT hp;have d:=CN h p;have e:=fL ho;refine⟨?_,?_,?_,?_⟩
  .obtain⟨rfl,_⟩ | ⟨_,_,rfl⟩:=hp<;>simp<;>omega
  .obtain⟨rfl,_⟩ | ⟨_,hl,rfl⟩:=hp
   .simp;omega
   .simp[aK]at hl;simp;omega
  .simp at d e⊢;omega
  .intro t ht;simp at ht;obtain ht|ht:=ht
   .unfold inh at ht
    split at ht
    .simp at ht
    .cases hc:cs[p.toNat]? with
     |none=>simp[hc]at ht
     |some c=>
      simp[hc]at ht;have f:=(List.getElem?_eq_some_iff.1 hc).1;exact iB (by omega) ((h _ _ hc).2.2.2 t ht)
   .exact j8 (by simp) ho t ht
theorem clsP_wf' {s:ByteArray}: ∀{k:Nat} {cs:List Cls} {i:Nat} {r:List Cls} {j:Nat},WfC cs->dR s k cs i= .ok (r,j)->WfC r/\r.length<=k+cs.length:=by
 intro k
 induction k with
 |zero=>
  intro cs i r j hw h;unfold dR at h
  split at h
  .cases h;exact⟨hw,by omega⟩
  .cases h
 |succ k ih=>
  intro cs i r j hw h;unfold dR at h
  split at h
  .cases h;exact⟨hw,by omega⟩
  .split at h
   .cases h
   .rename_i p l hp
    split at h
    .cases h
    .rename_i own m ho
     have:=ih (nw hw hp ho) h;simp at this;exact⟨this.1,by omega⟩
theorem ny {s:ByteArray} {i:Nat} {r:List Cls} {j:Nat} (h:dR s 4 [] i= .ok (r,j)):WfC r/\r.length<=4:=by
 have:=clsP_wf' (λj c h=>by simp at h) h;simpa using this
theorem lC {s:ByteArray} {n:Nat}: ∀{k:Nat} {gs:List Sig} {i:Nat} {r:List Sig} {j:Nat},fk s n k gs i= .ok (r,j)->r.length<=k+gs.length:=by
 intro k
 induction k with
 |zero=>
  intro gs i r j h;unfold fk at h
  split at h
  .cases h;omega
  .cases h
 |succ k ih=>
  intro gs i r j h;unfold fk at h
  split at h
  .cases h;omega
  .split at h
   .cases h
   .split at h
    .cases h
    .split at h
     .cases h
     .have:=ih h;simp at this;omega
def gx (bs:List Bod) (x m:Int):Int:=match ia bs x m with
 |some k=>k
 |none=> -1
def cU (cs:List Cls) (x:Int):Int:=(cs[x.toNat]?.map (·.par)).getD (-1)
def bM (cs:List Cls) (bs:List Bod) (m:Int):Nat->Int->Int
 |0,_=> -1
 |f+1,x=>if x<0 then-1 else if 0<=gx bs x m then gx bs x m else bM cs bs m f (cU cs x)
def cy (cs:List Cls) (bs:List Bod) (n:Nat) (x:Ins):Bool:=
 (decide (x.op.toNat=99)&&decide (bM cs bs x.b 5 x.a<0))||((decide (x.op.toNat=106)||decide (x.op.toNat=102))&&decide (n<=x.b))
def unl (cs:List Cls) (bs:List Bod) (c:List Ins):Option Nat:=(c.find? (cy cs bs c.length)).map (·.pos)
def gQ (s:ByteArray):Except (Nat×Nat) Img:=
 if 2000<s.size then .error (1,0)else
 match gP s with
 | .error j=> .error (2,j)
 | .ok im=>
  match im.zj.findSome? (λb=>unl im.zq im.zj b.code)with
  |some p=> .error (3,p)
  |none=> .ok im
structure WfX (cs:List Cls) (ns nl:Nat) (x:Ins):Prop where
 op:cE.contains x.op.toNat=true
 pos:x.pos<=2000
 cls:x.op.toNat=110\/x.op.toNat=120\/x.op.toNat=103\/x.op.toNat=112\/x.op.toNat=99->x.a<cs.length
 fld:x.op.toNat=103\/x.op.toNat=112->x.b<bB cs x.a
 sig:x.op.toNat=99->x.b<ns
 loc:x.op.toNat=108\/x.op.toNat=115->x.b<nl
 num:x.b<100
structure WfB (cs:List Cls) (gs:List Sig) (b:Bod):Prop where
 code: ∀x∈b.code,WfX cs gs.length b.zy.length x
 len:0<b.code.length/\b.code.length<=100
 loc:b.zy.length<=5/\ ∀t∈b.zy,cw cs.length t=true
 cls:(b.cls= -1/\b.meth= -1)\/(0<=b.cls/\b.cls<cs.length/\0<=b.meth/\b.meth<gs.length)
structure WfI (im:Img):Prop where
 cls:WfC im.zq
 nc:im.zq.length<=4
 ns:im.zx.length<=3
 sig: ∀g∈im.zx,cw im.zq.length g.arg=true/\cw im.zq.length g.ret=true
 bod: ∀b∈im.zj,WfB im.zq im.zx b
 nb:im.zj.length<=7
theorem iw {s:ByteArray} {i:Nat} (h:0<(pk s i).toNat):i<s.size:=by
 unfold pk at h
 split at h
 .assumption
 .simp at h
theorem fM {s:ByteArray} {n i d j:Nat} (h:eB s n i= .ok (d,j)):d<n/\d<10:=by
 unfold eB at h
 split at h
 .rename_i hd
  cases h
  simp[gO]at hd;omega
 .cases h
theorem kE {s:ByteArray} {n i d j:Nat} (h:fj s n i= .ok (d,j)):d<n:=by
 unfold fj at h
 split at h
 .rename_i hd
  cases h
  simp[aK]at hd;omega
 .cases h
theorem CO {s:ByteArray} {cs:List Cls} {ns nl i:Nat} {x:Ins} {j:Nat} (hs:s.size<=2000) (h:oI s cs ns nl i= .ok (x,j)):WfX cs ns nl x:=by
 unfold oI at h
 split at h
 .rename_i hl
  split at h
  .rename_i a b l ho
   cases h
   have hp:i<s.size:=iw (by
    obtain h|h:=Nat.eq_zero_or_pos (pk s i).toNat
    .rw[h]at hl;exact absurd hl (by decide)
    .exact h)
   refine⟨hl,by simp;omega,?_,?_,?_,?_,?_⟩
   all_goals simp only
   all_goals
    unfold ba at ho
    repeat' split at ho
   all_goals first
    | (cases ho;done)
    |skip
   all_goals (intros;first|omega|skip)
   all_goals (cases ho;first|omega| (have:=fM ‹_›;omega) | (have:=kE ‹_›;omega) | (have c:=fM ‹eB s 10 (i+1)=_›;have d:=fM ‹eB s 10 _=Except.ok (_,j)›;omega))
  .cases h
 .cases h
theorem uH {s:ByteArray} {cs:List Cls} {ns nl:Nat} (hs:s.size<=2000): ∀{k:Nat} {is:List Ins} {i:Nat} {r:List Ins} {j:Nat},(∀x∈is,WfX cs ns nl x)->eD s cs ns nl k is i= .ok (r,j)->(∀x∈r,WfX cs ns nl x)/\0<r.length/\r.length<=k+is.length:=by
 intro k
 induction k with
 |zero=>
  intro is i r j hw h;unfold eD at h
  split at h
  .rename_i hc;cases h;exact⟨hw,List.length_pos_iff.2 hc.2,by omega⟩
  .cases h
 |succ k ih=>
  intro is i r j hw h;unfold eD at h
  split at h
  .rename_i hc;cases h;exact⟨hw,List.length_pos_iff.2 hc.2,by omega⟩
  .split at h
   .cases h
   .rename_i x l hx
    have:=ih (λy hy=>by
     obtain hy|hy:=List.mem_append.1 hy
     .exact hw y hy
     .simp at hy;subst hy;exact CO hs hx) h
    simp at this;exact⟨this.1,this.2.1,by omega⟩
theorem uI {s:ByteArray} {n:Nat}: ∀{k:Nat} {gs:List Sig} {i:Nat} {r:List Sig} {j:Nat},(∀g∈gs,cw n g.arg=true/\cw n g.ret=true)->fk s n k gs i= .ok (r,j)-> ∀g∈r,cw n g.arg=true/\cw n g.ret=true:=by
 intro k
 induction k with
 |zero=>
  intro gs i r j hw h;unfold fk at h
  split at h
  .cases h;exact hw
  .cases h
 |succ k ih=>
  intro gs i r j hw h;unfold fk at h
  split at h
  .cases h;exact hw
  .split at h
   .cases h
   .rename_i a l1 h1
    split at h
    .cases h
    .rename_i b l2 h2
     split at h
     .cases h
     .refine ih (λg hg=> ?_) h;obtain hg|hg:=List.mem_append.1 hg
      .exact hw g hg
      .simp at hg;subst hg;unfold tyP at h1 h2
       split at h1<;>split at h2<;>first| (cases h1;done) | (cases h2;done) |skip
       cases h1
       cases h2
       exact⟨by assumption,by assumption⟩
theorem qe {n x:Nat} (hx:x<n) (hn:n<=4):cw n (UInt8.ofNat (65+x))=true:=by
 have:(UInt8.ofNat (65+x)).toNat=65+x:=by rw[UInt8.toNat_ofNat'];omega
 unfold cw aK;rw[this];simp;omega
theorem CP {s:ByteArray} {cs:List Cls} {gs:List Sig} (hs:s.size<=2000) (hn:cs.length<=4) (hg: ∀g∈gs,cw cs.length g.arg=true/\cw cs.length g.ret=true): ∀{k:Nat} {bs:List Bod} {i:Nat} {r:List Bod} {j:Nat},(∀b∈bs,WfB cs gs b)->iR s cs gs k bs i= .ok (r,j)->(∀b∈r,WfB cs gs b)/\r.length<=k+bs.length:=by
 intro k
 induction k with
 |zero=>
  intro bs i r j hw h;unfold iR at h
  split at h
  .cases h;exact⟨hw,by omega⟩
  .cases h
 |succ k ih=>
  intro bs i r j hw h;unfold iR at h
  split at h
  .cases h;exact⟨hw,by omega⟩
  .split at h
   .cases h
   .rename_i x l1 h1
    split at h
    .cases h
    .rename_i m l2 h2
     split at h
     .cases h
     .split at h
      .cases h
      .rename_i t l3 h3
       split at h
       .cases h
       .rename_i is l4 h4
        have d:=kE h1;have hm:=fM h2;have ht:=fL h3;have ha:=j8 (by simp) h3;have hc:=uH hs (by simp) h4
        have:=ih (λb hb=>by
         obtain hb|hb:=List.mem_append.1 hb
         .exact hw b hb
         .rw[List.mem_singleton]at hb;subst hb;refine⟨hc.1,⟨hc.2.1,by simpa using hc.2.2⟩,⟨by simp at ht⊢;omega,?_⟩,Or.inr ⟨by simp,by simp;omega,by simp,by simp;omega⟩⟩;intro c a;rw[List.mem_cons,List.mem_cons]at a;obtain rfl|rfl|a:=a
          .exact qe d hn
          .unfold ib;rw[List.getElem?_eq_getElem (by omega)];exact(hg _ (List.getElem_mem _)).1
          .exact ha c a) h
        simp at this;exact⟨this.1,by omega⟩
theorem uJ {s:ByteArray} {im:Img} (hs:s.size<=2000) (h:gP s= .ok im):WfI im:=by
 unfold gP at h
 split at h
 .cases h
 .rename_i cs l1 h1
  split at h
  .cases h
  .rename_i gs l2 h2
   split at h
   .cases h
   .rename_i bs l3 h3
    split at h
    .cases h
    .rename_i t l4 h4
     split at h
     .cases h
     .rename_i is l5 h5
      split at h
      .cases h
      .cases h
       have hc:=ny h1;have e:=lC h2;have d:=uI (by simp) h2;have g:=CP hs hc.2 d (by simp) h3;have ht:=fL h4;have f:=j8 (by simp) h4;have c:=uH hs (by simp) h5;refine⟨hc.1,hc.2,by simpa using e,d,?_,by simp at g⊢;omega⟩;intro b a;simp at a;obtain a|rfl:=a
       .exact g.1 b a
       .exact⟨c.1,⟨c.2.1,by simpa using c.2.2⟩,⟨by simp at ht⊢;omega,f⟩,Or.inl ⟨rfl,rfl⟩⟩
end Sp
section
open Go
section
variable {P:Program} {ops:Array Oper} {Q:Exit->Act->World->Prop} {S:World->Prop} {p:Nat}
def rN (P:Program) (ops:Array Oper) (Q:Exit->Act->World->Prop) (S:World->Prop) (p:Nat):Nat->Array Bool->Act->World->Prop
 |0,listed,a,w=>Region.ready .any ops listed=[]/\Q .normal a w
 |fuel+1,listed,a,w=>
  (Region.ready .any ops listed=[]->Q .normal a w)/\
  ∀i∈Region.ready .any ops listed,wpOp P ops Q i (λa' w'=>(i<p->S w')/\rN P ops Q S p fuel (listed.setIfInBounds i true) a' w') a w
theorem lD: ∀(fuel:Nat) (listed:Array Bool) (a:Act) (w:World),rN P ops Q S p fuel listed a w->wpAny P .any ops Q fuel listed a w
 |0,_,_,_,h=>h
 |fuel+1,_,_,_,h=>⟨h.1,λi hi=>wpOp_mono (λa' w' h'=>lD fuel _ a' w' h'.2) (h.2 i hi)⟩
theorem mT {i:Nat} {oi:Oper} {v:Value} (hi:ops[i]?=some oi) (hip:i<p) (hsel: ∀(j:Nat) (o:Oper) cs b,ops[j]?=some o->o.op≠ .select cs b)
  (hwait: ∀j oj,ops[j]?=some oj->p<=j-> ∃e∈oj.after,Region.binds .any e=true/\e.on=i)
  (hQ: ∀c a w,Q (.panic c) (a.put oi.dst v) w->Q (.panic c) a w):
  ∀(fuel:Nat) (listed:Array Bool) (a:Act) (w:World),
   (∀j oj,ops[j]?=some oj->j≠i->listed.getD j true=false->(∀e∈oj.after,Region.binds .any e=true->e.on≠i)->oi.apart ops oj=true)->
   i∈Region.ready .any ops listed->YieldsIf P ops S oi v a->S w->
   rN P ops Q S p fuel (listed.setIfInBounds i true) (a.put oi.dst v) w->rN P ops Q S p (fuel+1) listed a w:=by
 intro fuel
 induction fuel with
 |zero=>
  intro listed a w _ q t r H;refine⟨λh=>(by rw[h]at q;cases q),λj hj=> ?_⟩
  by_cases hji:j=i
  .subst hji;exact t.wpOp hi r ⟨λ_=>r,H⟩
  .have:=ready_mono hj hji;rw[H.1]at this
   cases this
 |succ fuel ih=>
  intro listed a w d q t r H;refine⟨λh=>(by rw[h]at q;cases q),λj hj=> ?_⟩
  by_cases hji:j=i
  .subst hji;exact t.wpOp hi r ⟨λ_=>r,H⟩
  .have n:=H.2 j (ready_mono hj hji);obtain⟨l,oj,g,s⟩:=mem_ready.1 hj
   have m: ∀e∈oj.after,Region.binds .any e=true->e.on≠i:=λe y x heq=>by
    have n:=s e y x;have A:=(mem_ready.1 q).1;rw[heq]at n;obtain h'|h':=Nat.lt_or_ge i listed.size
    .simp[h']at A n;rw[A]at n;cases n
    .simp[Array.getElem?_eq_none h']at n
   have z:j<p:=by
    obtain h|h:=Nat.lt_or_ge j p
    .exact h
    .obtain⟨e,y,x,C⟩:=hwait j oj g h;exact absurd C (m e y x)
   have B:=wpOp_putIf g (d j oj g hji l m) (λcs b=>hsel i oi cs b hi) (λcs b=>hsel j oj cs b g) hQ t n
   have f: ∀k ok,ops[k]?=some ok->k≠i->(listed.setIfInBounds j true).getD k true=false->
     (∀e∈ok.after,Region.binds .any e=true->e.on≠i)->oi.apart ops ok=true:=λk ok hk hki hun hno=>by
    refine d k ok hk hki ?_ hno
    by_cases hjk:j=k
    .subst hjk;exact l
    .rw[getD_set_ne true hjk]at hun;exact hun
   refine wpOp_mono (λa' w' h3=>⟨h3.2.1,ih (listed.setIfInBounds j true) a' w' f (ready_mono q (Ne.symm hji)) h3.1 (h3.2.1 z) ?_⟩) B;rw[Array.setIfInBounds_comm _ _ hji];exact h3.2.2
def iS (n k:Nat):Array Bool:=((List.range n).map λi=>decide (i<k)).toArray
theorem jH (n k:Nat):(iS n k).setIfInBounds k true=iS n (k+1):=by
 unfold iS
 apply Array.ext
 .simp
 .intro i a b
  by_cases h:k=i
  .subst h;simp
  .rw[Array.getElem_setIfInBounds_ne (by simpa using a) h];simp;omega
theorem yM (n:Nat):Array.replicate n false=iS n 0:=by
 unfold iS
 apply Array.ext
 .simp
 .intro i a b;simp
def AV (ops:Array Oper) (p k:Nat):Bool:=
 decide (k<p)&&Region.noSelect ops&&Region.free .any ops (iS ops.size k) k&&(Region.ready .any ops (iS ops.size k)).contains k&&
 (List.range ops.size).all λj=>decide (j<p)||match ops[j]? with
  |some oj=>oj.after.any λe=>Region.binds .any e&&e.on==k
  |none=>true
def lE (P:Program) (ops:Array Oper) (Q:Exit->Act->World->Prop) (S:World->Prop) (p k:Nat) (a:Act) (w:World):Prop:=
 rN P ops Q S p (ops.size-k) (iS ops.size k) a w
theorem aD {id:Nat} {a:Act} {w:World} (S:World->Prop) (p:Nat) (h:lE P ops Q S p 0 a w.drew) (hm:P.follows .mixedOrders=true:=by kernel_rfl):(Code.region id ops true).wp P Q a w:=by
 refine wp_region_any hm (lD (S:=S) (p:=p) _ _ _ _ ?_);rw[yM];exact h
theorem bW:(∀(l:List Value) (i:Nat) (v:Value),l.toArray.setIfInBounds i v=(l.set i v).toArray)/\(∀(x:Value) (l:List Value) (v:Value),(x::l).set 0 v=v::l)/\
  (∀(x:Value) (l:List Value) (n:Nat) (v:Value),(x::l).set (n+1) v=x::l.set n v):=⟨λ_ _ _=>by simp,λ_ _ _=>rfl,λ_ _ _ _=>rfl⟩
theorem gy {ops:Array Oper} {k:Nat} {o:Oper} {rest:List Oper} (h:ops.toList.drop k=o::rest):ops[k]?=some o:=by
 have a:(ops.toList.drop k)[0]?=some o:=by rw[h];rfl
 rw[List.getElem?_drop,Nat.add_zero]at a;simpa using a
theorem aF {k:Nat} {o:Oper} {rest:List Oper} {v:Value} {a:Act} {w:World} (hod:ops.toList.drop k=o::rest) (hS:S w) (hy: ∀w,S w->(execOp a.eval o).run P w= .ok (.value v) w) (h:lE P ops Q S p (k+1) (a.put o.dst v) w) (hc:AV ops p k=true:=by kernel_rfl) (hQ: ∀c a w,Q (.panic c) (a.put o.dst v) w->Q (.panic c) a w:=by exact λ_ _ _ h=>h) (hw:Region.wanted o (yielded ops a.tmps)=true:=by exact rfl):lE P ops Q S p k a w:=by
 have g:=gy hod;unfold AV at hc;simp only[Bool.and_eq_true,decide_eq_true_eq,List.all_eq_true,List.mem_range]at hc;obtain⟨⟨⟨⟨e,f⟩,b⟩,l⟩,m⟩:=hc;have r:k<ops.size:=(Array.getElem?_eq_some_iff.1 g).1;unfold lE at*;rw[show ops.size-k=(ops.size-(k+1))+1 from by omega];refine mT g e (Region.noSelect_spec f) ?_ hQ _ _ a w (Region.free_spec g b) (by simpa using l) (Or.inl ⟨hw,hy⟩) hS (by rw[jH];exact h);intro j oj n q;have d:j<ops.size:=(Array.getElem?_eq_some_iff.1 n).1;have:=m j d;rw[n]at this;simp only[Bool.or_eq_true,decide_eq_true_eq,Array.any_eq_true,Bool.and_eq_true,beq_iff_eq]at this;obtain h1| ⟨i,hi,h1,h2⟩:=this
 .omega
 .exact⟨oj.after[i],Array.getElem_mem hi,h1,h2⟩
theorem au {k:Nat} {o:Oper} {rest:List Oper} {a:Act} {w:World} (hod:ops.toList.drop k=o::rest) (h: ∀K':Act->World->Prop,Go.Shut (∀a w,(k<p->S w)->lE P ops Q S p (k+1) a w->K' a w)->if Region.wanted o (yielded ops a.tmps)=true then Oper.wp P o a w K' Q else K' (a.put o.dst undef) w) (hr:Region.ready .any ops (iS ops.size k)=[k]:=by kernel_rfl):lE P ops Q S p k a w:=by
 have b:=gy hod;have c:k<ops.size:=(Array.getElem?_eq_some_iff.1 b).1;unfold lE;rw[show ops.size-k=(ops.size-(k+1))+1 from by omega];refine⟨λh=>(by rw[hr]at h;cases h),λi hi=> ?_⟩;rw[hr]at hi;simp at hi;subst hi;exact wpOp_step b (λK' hK=>h K' (λa w hS hW=>hK a w ⟨hS,by rw[jH];exact hW⟩))
theorem aI {k:Nat} {a:Act} {w:World} (hk:k=ops.size) (h:Q .normal a w) (hr:Region.ready .any ops (iS ops.size k)=[]:=by kernel_rfl):lE P ops Q S p k a w:=by
 subst hk;unfold lE;rw[Nat.sub_self];exact⟨hr,h⟩
def AW (ops:Array Oper) (p k:Nat):Bool:=decide (p<=k)&&decide (k<=ops.size)&&decide (Region.ready .any ops (iS ops.size ops.size)=[])&&(List.range' k (ops.size-k)).all λj=>decide (Region.ready .any ops (iS ops.size j)=[j])
theorem si: ∀(m k:Nat) (a:Act) (w:World),k+m=ops.size->p<=k->Region.ready .any ops (iS ops.size ops.size)=[]->(∀j∈List.range' k m,Region.ready .any ops (iS ops.size j)=[j])->wpOps P ops Q (List.range' k m) a w->rN P ops Q S p m (iS ops.size k) a w
 |0,k,a,w,hk,_,h0,_,h=>⟨by rw[show k=ops.size from by omega];exact h0,h⟩
 |m+1,k,a,w,hk,hp,h0,hr,h=>by
  have b:=hr k (by simp[List.range'_succ]);rw[List.range'_succ,wpOps_cons]at h;refine⟨λe=>(by rw[b]at e;cases e),λi hi=> ?_⟩;rw[b,List.mem_singleton]at hi;subst hi;refine wpOp_mono (λa' w' h'=>⟨λe=>absurd e (by omega),?_⟩) h;rw[jH];exact si m (i+1) a' w' (by omega) (by omega) h0 (λj hj=>hr j (by rw[List.range'_succ];exact List.mem_cons_of_mem _ hj)) h'
theorem dU {k:Nat} {rest:List Oper} {a:Act} {w:World} (hod:ops.toList.drop k=rest) (h:wpList P ops Q rest a w) (hc:AW ops p k=true:=by kernel_rfl):lE P ops Q S p k a w:=by
 simp only[AW,Bool.and_eq_true,decide_eq_true_eq,List.all_eq_true]at hc;have hl:rest.length=ops.size-k:=by rw[<-hod];simp
 rw[<-wpOps_eq_wpList (ops:=ops) rest k (λj=>by rw[<-hod,List.getElem?_drop];simp),hl]at h;exact si _ k a w (by omega) hc.1.1.1 hc.1.2 hc.2 h
end
end
section
open Go Go.RowKit
structure But (F:Nat->Prop) (w w':World):Prop where
 os:w'.os=w.os
 tape:w'.tape=w.tape
 output:w'.output=w.output
 size:w.heap.size<=w'.heap.size
 block: ∀k,k<w.heap.size-> ¬F k->w'.heap[k]?=w.heap[k]?
theorem But.refl (F:Nat->Prop) (w:World):But F w w:=⟨rfl,rfl,rfl,Nat.le_refl _,λ_ _ _=>rfl⟩
theorem But.trans {F:Nat->Prop} {a b c:World} (h:But F a b) (k:But F b c):But F a c:=
 ⟨k.os.trans h.os,k.tape.trans h.tape,k.output.trans h.output,Nat.le_trans h.size k.size,
  λi hi hf=>(k.block i (Nat.lt_of_lt_of_le hi h.size) hf).trans (h.block i hi hf)⟩
theorem But.mono {F G:Nat->Prop} {a b:World} (h:But F a b) (hs: ∀k,k<a.heap.size->F k->G k):But G a b:=
 ⟨h.os,h.tape,h.output,h.size,λk hk hg=>h.block k hk (λhf=>hg (hs k hk hf))⟩
theorem But.next {F G:Nat->Prop} {a b c:World} (h:But G a b) (k:But F b c) (hs: ∀i,i<a.heap.size->F i->G i):But G a c:=
 ⟨k.os.trans h.os,k.tape.trans h.tape,k.output.trans h.output,Nat.le_trans h.size k.size,
  λi hi hf=>(k.block i (Nat.lt_of_lt_of_le hi h.size) (λh'=>hf (hs i hi h'))).trans (h.block i hi hf)⟩
theorem But.drewN (F:Nat->Prop) (w:World) (n:Nat):But F w (w.drewN n):=⟨rfl,rfl,rfl,Nat.le_refl _,λ_ _ _=>rfl⟩
theorem But.drew (F:Nat->Prop) (w:World):But F w w.drew:=⟨rfl,rfl,rfl,Nat.le_refl _,λ_ _ _=>rfl⟩
theorem But.alloc (F:Nat->Prop) (w:World) (o:Obj):But F w (w.alloc o):=
 ⟨rfl,rfl,rfl,by simp,λk hk _=>Below.heap_alloc _ _ _ hk⟩
theorem But.setCell {F:Nat->Prop} (w:World) {a:Addr} (ha:F a.block) (u:Value):But F w (w.setCell a u):=
 ⟨rfl,rfl,rfl,by simp[World.setCell],λk _ hf=>Below.heap_setCell _ _ _ _ (λe=>hf (e▸ha))⟩
theorem But.setB (w:World) (b j:Nat) (u:Value):But (· =b) w (w.setCell ⟨b,j,none⟩ u):=But.setCell (F:=λx=>x=b) w (a:=⟨b,j,none⟩) (by rfl) u
theorem But.cell {F:Nat->Prop} {w w':World} (h:But F w w') {p:Addr} (hp:p.block<w.heap.size) (hf: ¬F p.block):w'.cell? p=w.cell? p:=
 World.cell?_of_block (w:=w) (h.block p.block hp hf)
theorem But.frozen {F:Nat->Prop} {w w':World} (h:But F w w') {p:Addr} (hp:p.block<w.heap.size) (hf: ¬F p.block):w'.frozen? p=w.frozen? p:=
 World.frozen?_of_block (w:=w) (h.block p.block hp hf)
theorem But.toBelow {F:Nat->Prop} {B:Nat} {w w':World} (h:But F w w') (hB:B<=w.heap.size) (hF: ∀k,F k->B<=k):Below B w w':=
 ⟨h.os,h.tape,h.output,h.size,λk hk=>h.block k (by omega) (λhf=>by have:=hF k hf;omega)⟩
theorem ae {w:World} {b:Nat} {o:Obj} (h:w.heap[b]?=some o):b<w.heap.size:=by
 obtain h1|h1:=Nat.lt_or_ge b w.heap.size
 .exact h1
 .rw[Array.getElem?_eq_none h1]at h;cases h
section
variable {w w':World} {g:Nat} {t:TypeId} {fr:Nat×Nat} {l:List Value} {x0 x1 x2 x3 x4 x5 x6 x7 x8 x9 x10:Value}
theorem ce0 (h:w.heap[g]?=some (.cells (List.toArray (x0::l)) t fr)):w.cell? ⟨g,0,none⟩=some x0:=by rw[cell_of_row w g 0 _ _ _ h];rfl
theorem ce1 (h:w.heap[g]?=some (.cells (List.toArray (x0::x1::l)) t fr)):w.cell? ⟨g,1,none⟩=some x1:=by rw[cell_of_row w g 1 _ _ _ h];rfl
theorem ce2 (h:w.heap[g]?=some (.cells (List.toArray (x0::x1::x2::l)) t fr)):w.cell? ⟨g,2,none⟩=some x2:=by rw[cell_of_row w g 2 _ _ _ h];rfl
theorem ce3 (h:w.heap[g]?=some (.cells (List.toArray (x0::x1::x2::x3::l)) t fr)):w.cell? ⟨g,3,none⟩=some x3:=by rw[cell_of_row w g 3 _ _ _ h];rfl
theorem ce4 (h:w.heap[g]?=some (.cells (List.toArray (x0::x1::x2::x3::x4::l)) t fr)):w.cell? ⟨g,4,none⟩=some x4:=by rw[cell_of_row w g 4 _ _ _ h];rfl
theorem ce5 (h:w.heap[g]?=some (.cells (List.toArray (x0::x1::x2::x3::x4::x5::l)) t fr)):w.cell? ⟨g,5,none⟩=some x5:=by rw[cell_of_row w g 5 _ _ _ h];rfl
theorem ce6 (h:w.heap[g]?=some (.cells (List.toArray (x0::x1::x2::x3::x4::x5::x6::l)) t fr)):w.cell? ⟨g,6,none⟩=some x6:=by rw[cell_of_row w g 6 _ _ _ h];rfl
theorem ce7 (h:w.heap[g]?=some (.cells (List.toArray (x0::x1::x2::x3::x4::x5::x6::x7::l)) t fr)):w.cell? ⟨g,7,none⟩=some x7:=by rw[cell_of_row w g 7 _ _ _ h];rfl
theorem ce8 (h:w.heap[g]?=some (.cells (List.toArray (x0::x1::x2::x3::x4::x5::x6::x7::x8::l)) t fr)):w.cell? ⟨g,8,none⟩=some x8:=by rw[cell_of_row w g 8 _ _ _ h];rfl
theorem ce9 (h:w.heap[g]?=some (.cells (List.toArray (x0::x1::x2::x3::x4::x5::x6::x7::x8::x9::l)) t fr)):w.cell? ⟨g,9,none⟩=some x9:=by rw[cell_of_row w g 9 _ _ _ h];rfl
theorem FP (h:w.heap[g]?=some (.cells (List.toArray (x0::x1::x2::x3::x4::x5::x6::x7::x8::x9::x10::l)) t fr)):w.cell? ⟨g,10,none⟩=some x10:=by rw[cell_of_row w g 10 _ _ _ h];rfl
theorem But.kp {o:Obj} (hB:But (λ_=>False) w w') (h:w.heap[g]?=some o):w'.heap[g]?=some o:=(hB.block g (ae h) (λh=>h)).trans h
theorem But.kc {p:Addr} {v:Option Value} (hB:But (λ_=>False) w w') (h:w.cell? p=v) (hl:p.block<w.heap.size):w'.cell? p=v:=(hB.cell hl (λh=>h)).trans h
theorem But.kz {p:Addr} {v:Bool} (hB:But (λ_=>False) w w') (h:w.frozen? p=v) (hl:p.block<w.heap.size):w'.frozen? p=v:=(hB.frozen hl (λh=>h)).trans h
theorem tf (x:Nat) (k:Int) (h:(x:Int)≠k):((x:Int)==k)=false:=by rw[beq_eq_false_iff_ne];exact h
end
def RdB (w:World) (b:Nat) (s:ByteArray) (i:Nat) (bad src:Bool) (bi:Nat) (vc vt:Value):Prop:=
 w.heap[b]?=some (.cells #[.string s,.int .i64 i,.bool bad,.bool src,.pointer (some ⟨bi,0,none⟩),vc,vt] 140)
section
variable {w:World} {b:Nat} {s:ByteArray} {i:Nat} {bad src:Bool} {bi:Nat} {vc vt:Value}
theorem RdB.lt (h:RdB w b s i bad src bi vc vt):b<w.heap.size:=ae h
theorem RdB.c0 (h:RdB w b s i bad src bi vc vt):w.cell? ⟨b,0,none⟩=some (.string s):=by rw[cell_of_row w b 0 _ _ (0,0) h];rfl
theorem RdB.c1 (h:RdB w b s i bad src bi vc vt):w.cell? ⟨b,1,none⟩=some (.int .i64 i):=by rw[cell_of_row w b 1 _ _ (0,0) h];rfl
theorem RdB.c2 (h:RdB w b s i bad src bi vc vt):w.cell? ⟨b,2,none⟩=some (.bool bad):=by rw[cell_of_row w b 2 _ _ (0,0) h];rfl
theorem RdB.c3 (h:RdB w b s i bad src bi vc vt):w.cell? ⟨b,3,none⟩=some (.bool src):=by rw[cell_of_row w b 3 _ _ (0,0) h];rfl
theorem RdB.c4 (h:RdB w b s i bad src bi vc vt):w.cell? ⟨b,4,none⟩=some (.pointer (some ⟨bi,0,none⟩)):=by rw[cell_of_row w b 4 _ _ (0,0) h];rfl
theorem RdB.c5 (h:RdB w b s i bad src bi vc vt):w.cell? ⟨b,5,none⟩=some vc:=by rw[cell_of_row w b 5 _ _ (0,0) h];rfl
theorem RdB.c6 (h:RdB w b s i bad src bi vc vt):w.cell? ⟨b,6,none⟩=some vt:=by rw[cell_of_row w b 6 _ _ (0,0) h];rfl
theorem RdB.fz (h:RdB w b s i bad src bi vc vt) (j:Nat):w.frozen? ⟨b,j,none⟩=false:=frozen_of_row w b j _ _ h
theorem RdB.drewN (h:RdB w b s i bad src bi vc vt) (n:Nat):RdB (w.drewN n) b s i bad src bi vc vt:=h
theorem RdB.but {F:Nat->Prop} {w':World} (h:RdB w b s i bad src bi vc vt) (hb:But F w w') (hf: ¬F b):RdB w' b s i bad src bi vc vt:=(hb.block b h.lt hf).trans h
theorem RdB.alloc (h:RdB w b s i bad src bi vc vt) (o:Obj):RdB (w.alloc o) b s i bad src bi vc vt:=h.but (But.alloc (λ_=>False) w o) (λh=>h)
theorem RdB.set1 (h:RdB w b s i bad src bi vc vt) (j:Nat):RdB (w.setCell ⟨b,1,none⟩ (.int .i64 j)) b s j bad src bi vc vt:=heap_setCell_same w b 1 _ _ _ h
theorem RdB.inc (h:RdB w b s i bad src bi vc vt):RdB (w.setCell ⟨b,1,none⟩ (.int .i64 ((i:Int)+1))) b s (i+1) bad src bi vc vt:=by simpa using h.set1 (i+1)
theorem RdB.set2 (h:RdB w b s i bad src bi vc vt) (d:Bool):RdB (w.setCell ⟨b,2,none⟩ (.bool d)) b s i d src bi vc vt:=heap_setCell_same w b 2 _ _ _ h
theorem RdB.set5 (h:RdB w b s i bad src bi vc vt) (v:Value):RdB (w.setCell ⟨b,5,none⟩ v) b s i bad src bi v vt:=heap_setCell_same w b 5 _ _ _ h
theorem RdB.set6 (h:RdB w b s i bad src bi vc vt) (v:Value):RdB (w.setCell ⟨b,6,none⟩ v) b s i bad src bi vc v:=heap_setCell_same w b 6 _ _ _ h
end
theorem aB {w:World} {g:Nat} (h:w.heap.size=g) (o:Obj):(w.alloc o).heap[g]?=some o:=by subst h;exact heap_alloc_new _ _
theorem aU (w:World) (a:Addr) (u:Value):(w.setCell a u).heap.size=w.heap.size:=by simp[World.setCell]
def ImB (w:World) (bi:Nat) (v0 v1 v2:Value):Prop:=w.heap[bi]?=some (.cells #[v0,v1,v2] 44)
section
variable {w:World} {bi:Nat} {v0 v1 v2:Value}
theorem ImB.lt (h:ImB w bi v0 v1 v2):bi<w.heap.size:=ae h
theorem ImB.c0 (h:ImB w bi v0 v1 v2):w.cell? ⟨bi,0,none⟩=some v0:=by rw[cell_of_row w bi 0 _ _ (0,0) h];rfl
theorem ImB.c1 (h:ImB w bi v0 v1 v2):w.cell? ⟨bi,1,none⟩=some v1:=by rw[cell_of_row w bi 1 _ _ (0,0) h];rfl
theorem ImB.c2 (h:ImB w bi v0 v1 v2):w.cell? ⟨bi,2,none⟩=some v2:=by rw[cell_of_row w bi 2 _ _ (0,0) h];rfl
theorem ImB.fz (h:ImB w bi v0 v1 v2) (j:Nat):w.frozen? ⟨bi,j,none⟩=false:=frozen_of_row w bi j _ _ h
theorem ImB.but {F:Nat->Prop} {w':World} (h:ImB w bi v0 v1 v2) (hb:But F w w') (hf: ¬F bi):ImB w' bi v0 v1 v2:=(hb.block bi h.lt hf).trans h
theorem ImB.set0 (h:ImB w bi v0 v1 v2) (v:Value):ImB (w.setCell ⟨bi,0,none⟩ v) bi v v1 v2:=heap_setCell_same w bi 0 _ _ _ h
theorem ImB.set1 (h:ImB w bi v0 v1 v2) (v:Value):ImB (w.setCell ⟨bi,1,none⟩ v) bi v0 v v2:=heap_setCell_same w bi 1 _ _ _ h
theorem ImB.set2 (h:ImB w bi v0 v1 v2) (v:Value):ImB (w.setCell ⟨bi,2,none⟩ v) bi v0 v1 v:=heap_setCell_same w bi 2 _ _ _ h
end
theorem ag {F:Nat->Prop} {w w':World} {base e size n:Nat} {v:Value} {xs:List Value} (h:w.ownsRow base e size v n xs) (hb:But F w w') (hf: ∀g,v.ownBlock=some g-> ¬F g):w'.ownsRow base e size v n xs:=by
 refine⟨h.1,?_⟩;obtain h2| ⟨g,cap,cur,hv,hg,hh,r⟩:=h.2
 .exact Or.inl h2
 .exact Or.inr ⟨g,cap,cur,hv,hg,(hb.block g (ae hh) (hf g (by rw[hv];rfl))).trans hh,r⟩
theorem aw {w:World} {base e size n:Nat} {v:Value} {xs:List Value} (h:w.ownsRow base e size v n xs): ∀g,v.ownBlock=some g->base<=g:=by
 intro g a;obtain⟨rfl,_⟩ | ⟨g',cap,cur,rfl,b,_⟩:=h.2
 .cases a
 .simp[Value.ownBlock]at a;omega
theorem aY {w:World} {base e size n:Nat} {v:Value} {xs:List Value} (h:w.ownsRow base e size v n xs): ∀g,v.ownBlock=some g->g<w.heap.size:=by
 intro g a;obtain⟨rfl,_⟩ | ⟨g',cap,cur,rfl,b,hh,_⟩:=h.2
 .cases a
 .simp[Value.ownBlock]at a;subst a;exact ae hh
theorem cR (w:World) (base e size:Nat):w.ownsRow base e size (.slice none 0 0) 0 []:=⟨by simp,Or.inl ⟨rfl,rfl⟩⟩
theorem ay {w:World} {base e size n:Nat} {v:Value} {xs:List Value} (h:w.ownsRow base e size v n xs): ∃ao cap,v= .slice ao n cap:=by
 obtain⟨rfl,rfl⟩ | ⟨g',cap,cur,rfl,_⟩:=h.2
 .exact⟨_,_,rfl⟩
 .exact⟨_,_,rfl⟩
theorem jC {w:World} {base e size n:Nat} {v:Value} {xs:List Value} (h:w.ownsRow base e size v n xs) {j:Nat} {u:Value} (hu:xs[j]?=some u):
  ∃g cap,v= .slice (some ⟨g,0,none⟩) n cap/\w.cell? ⟨g,j,none⟩=some u/\g<w.heap.size/\base<=g:=by
 obtain⟨rfl,rfl⟩ | ⟨g,cap,cur,rfl,a,hh,_⟩:=h.2
 .have:=h.1;simp at this;subst this;simp at hu
 .refine⟨g,cap,rfl,?_,ae hh,a⟩;have b:j<n*size:=by rw[<-h.1];exact(List.getElem?_eq_some_iff.1 hu).1
  rw[h.cellAt j b,hu]
theorem a8 {w w':World} {row:Option Nat} (h:w.grownBy w' row):But (λk=>row=some k) w w':=
 ⟨h.os,h.tape,h.output,h.size,λk hk hf=>h.block k hk (λe=>hf e.symm)⟩
def dw (cs:List Sp.Cls):List Value:=cs.flatMap λc=> [.int .i64 c.par,.string ⟨c.fields.toArray⟩]
def dj (gs:List Sp.Sig):List Value:=gs.flatMap λg=> [.int .u8 g.arg.toNat,.int .u8 g.ret.toNat]
def dx (l:List Sp.Ins):List Value:=l.flatMap λx=> [.int .u8 x.op.toNat,.int .i64 x.a,.int .i64 x.b,.int .i64 x.pos]
theorem fN {α β:Type} (f:α->List β) (m:Nat) (hf: ∀x,(f x).length=m): ∀(l:List α) (j k:Nat) (x:α),l[j]?=some x->k<m->(l.flatMap f)[j*m+k]?=(f x)[k]?:=by
 intro l
 induction l with
 |nil=>intro j k x h _;simp at h
 |cons y l ih=>
  intro j k x h a
  cases j with
  |zero=>
   simp at h;subst h;rw[List.flatMap_cons,Nat.zero_mul,Nat.zero_add,List.getElem?_append_left (by rw[hf];exact a)]
  |succ j=>
   simp at h;rw[List.flatMap_cons,List.getElem?_append_right (by rw[hf,Nat.succ_mul];omega),hf];rw[show(j+1)*m+k-m=j*m+k from by rw[Nat.succ_mul];omega];exact ih j k x h a
theorem nz {cs:List Sp.Cls} {j:Nat} {c:Sp.Cls} (h:cs[j]?=some c):(dw cs)[j*2]?=some (.int .i64 c.par):=by
 have:=fN (λc:Sp.Cls=> [Value.int .i64 c.par,.string ⟨c.fields.toArray⟩]) 2 (λ_=>rfl) cs j 0 c h (by omega);simpa[dw]using this
theorem ic {cs:List Sp.Cls} {j:Nat} {c:Sp.Cls} (h:cs[j]?=some c):(dw cs)[j*2+1]?=some (.string ⟨c.fields.toArray⟩):=by
 have:=fN (λc:Sp.Cls=> [Value.int .i64 c.par,.string ⟨c.fields.toArray⟩]) 2 (λ_=>rfl) cs j 1 c h (by omega);simpa[dw]using this
def da (l:List (Sp.Bod×Value×Value)):List Value:=l.flatMap λx=> [.int .i64 x.1.cls,.int .i64 x.1.meth,.string ⟨x.1.zy.toArray⟩,x.2.1,x.2.2]
theorem mI (l:List (Sp.Bod×Value×Value)) (x:Sp.Bod×Value×Value):da (l++ [x])=da l++ [.int .i64 x.1.cls,.int .i64 x.1.meth,.string ⟨x.1.zy.toArray⟩,x.2.1,x.2.2]:=by simp[da]
theorem iT {l:List (Sp.Bod×Value×Value)} {j k:Nat} {x:Sp.Bod×Value×Value} (h:l[j]?=some x) (hk:k<5):(da l)[j*5+k]?=[Value.int .i64 x.1.cls,.int .i64 x.1.meth,.string ⟨x.1.zy.toArray⟩,x.2.1,x.2.2][k]?:=
 fN (λx:Sp.Bod×Value×Value=> [Value.int .i64 x.1.cls,.int .i64 x.1.meth,.string ⟨x.1.zy.toArray⟩,x.2.1,x.2.2]) 5 (λ_=>rfl) l j k x h hk
theorem gR {gs:List Sp.Sig} {j k:Nat} {g:Sp.Sig} (h:gs[j]?=some g) (hk:k<2):(dj gs)[j*2+k]?=[Value.int .u8 g.arg.toNat,.int .u8 g.ret.toNat][k]?:=
 fN (λg:Sp.Sig=> [Value.int .u8 g.arg.toNat,.int .u8 g.ret.toNat]) 2 (λ_=>rfl) gs j k g h hk
theorem eO {l:List Sp.Ins} {j k:Nat} {x:Sp.Ins} (h:l[j]?=some x) (hk:k<4):(dx l)[j*4+k]?=[Value.int .u8 x.op.toNat,.int .i64 x.a,.int .i64 x.b,.int .i64 x.pos][k]?:=
 fN (λx:Sp.Ins=> [Value.int .u8 x.op.toNat,.int .i64 x.a,.int .i64 x.b,.int .i64 x.pos]) 4 (λ_=>rfl) l j k x h hk
theorem eP {l:List (Sp.Bod×Value×Value)} {j:Nat} {x:Sp.Bod×Value×Value} (h:l[j]?=some x):(da l)[j*5]?=some (.int .i64 x.1.cls):=iT (k:=0) h (by omega)
theorem eQ {l:List (Sp.Bod×Value×Value)} {j:Nat} {x:Sp.Bod×Value×Value} (h:l[j]?=some x):(da l)[j*5+1]?=some (.int .i64 x.1.meth):=iT (k:=1) h (by omega)
theorem fO {l:List (Sp.Bod×Value×Value)} {j:Nat} {x:Sp.Bod×Value×Value} (h:l[j]?=some x):(da l)[j*5+2]?=some (.string ⟨x.1.zy.toArray⟩):=iT (k:=2) h (by omega)
theorem fP {l:List (Sp.Bod×Value×Value)} {j:Nat} {x:Sp.Bod×Value×Value} (h:l[j]?=some x):(da l)[j*5+3]?=some (x.2.1):=iT (k:=3) h (by omega)
theorem fQ {l:List (Sp.Bod×Value×Value)} {j:Nat} {x:Sp.Bod×Value×Value} (h:l[j]?=some x):(da l)[j*5+4]?=some (x.2.2):=iT (k:=4) h (by omega)
theorem kM {gs:List Sp.Sig} {j:Nat} {g:Sp.Sig} (h:gs[j]?=some g):(dj gs)[j*2]?=some (.int .u8 g.arg.toNat):=gR (k:=0) h (by omega)
theorem tg {gs:List Sp.Sig} {j:Nat} {g:Sp.Sig} (h:gs[j]?=some g):(dj gs)[j*2+1]?=some (.int .u8 g.ret.toNat):=gR (k:=1) h (by omega)
theorem jk {l:List Sp.Ins} {j:Nat} {x:Sp.Ins} (h:l[j]?=some x):(dx l)[j*4]?=some (.int .u8 x.op.toNat):=eO (k:=0) h (by omega)
theorem jl {l:List Sp.Ins} {j:Nat} {x:Sp.Ins} (h:l[j]?=some x):(dx l)[j*4+1]?=some (.int .i64 x.a):=eO (k:=1) h (by omega)
theorem jm {l:List Sp.Ins} {j:Nat} {x:Sp.Ins} (h:l[j]?=some x):(dx l)[j*4+2]?=some (.int .i64 x.b):=eO (k:=2) h (by omega)
theorem jo {l:List Sp.Ins} {j:Nat} {x:Sp.Ins} (h:l[j]?=some x):(dx l)[j*4+3]?=some (.int .i64 x.pos):=eO (k:=3) h (by omega)
theorem aE {w:World} {base e size n cap:Nat} {ao:Option Addr} {xs:List Value} (h:w.ownsRow base e size (.slice ao n cap) n xs) (hn:0<n):
  ∃g,ao=some ⟨g,0,none⟩/\g<w.heap.size/\base<=g/\ ∀j u,xs[j]?=some u->w.cell? ⟨g,j,none⟩=some u:=by
 obtain⟨g,cap',hv,b,a⟩:=h.form hn;injection hv with h1 h2 h3;subst h1;refine⟨g,rfl,a,b,λj u hu=> ?_⟩;obtain⟨g',c',hv',hc,_⟩:=jC h hu;injection hv' with h1;injection h1 with h1;injection h1 with h1;subst h1;exact hc
theorem mJ (cs:List Sp.Cls) (c:Sp.Cls):dw (cs++ [c])=dw cs++ [.int .i64 c.par,.string ⟨c.fields.toArray⟩]:=by simp[dw]
theorem mK (cs:List Sp.Sig) (c:Sp.Sig):dj (cs++ [c])=dj cs++ [.int .u8 c.arg.toNat,.int .u8 c.ret.toNat]:=by simp[dj]
theorem rO (cs:List Sp.Ins) (c:Sp.Ins):dx (cs++ [c])=dx cs++ [.int .u8 c.op.toNat,.int .i64 c.a,.int .i64 c.b,.int .i64 c.pos]:=by simp[dx]
theorem fp (tl:List UInt8) (c:UInt8):(⟨tl.toArray⟩:ByteArray)++⟨#[c]⟩=⟨(tl++ [c]).toArray⟩:=by
 apply ByteArray.ext
 simp
theorem db (l m:List UInt8):(⟨l.toArray⟩:ByteArray)++⟨m.toArray⟩=⟨(l++m).toArray⟩:=by
 apply ByteArray.ext
 simp
theorem qf (c:UInt8) (w:World):(convert 112 9 (.slice (some ⟨w.heap.size,0,none⟩) 1 1)).run prog (w.alloc (.cells #[.int .u8 c.toNat] 5))= .ok (.string ⟨#[c]⟩) (w.alloc (.cells #[.int .u8 c.toNat] 5)):=by
 refine run_convert_bytes_back (w.alloc (.cells #[.int .u8 c.toNat] 5)) 112 9 5 ⟨w.heap.size,0,none⟩ 1 [c] (by kernel_rfl) (by kernel_rfl) (by kernel_rfl) ?_;intro j a
 match j,a with
 |0,_=>simp[Addr.add]
theorem EV (c d:UInt8) (w:World):(convert 112 9 (.slice (some ⟨w.heap.size,0,none⟩) 2 2)).run prog (w.alloc (.cells #[.int .u8 c.toNat,.int .u8 d.toNat] 5))= .ok (.string ⟨#[c,d]⟩) (w.alloc (.cells #[.int .u8 c.toNat,.int .u8 d.toNat] 5)):=by
 refine run_convert_bytes_back (w.alloc (.cells #[.int .u8 c.toNat,.int .u8 d.toNat] 5)) 112 9 5 ⟨w.heap.size,0,none⟩ 2 [c,d] (by kernel_rfl) (by kernel_rfl) (by kernel_rfl) ?_;intro j a
 match j,a with
 |0,_=>simp[Addr.add]
 |1,_=>simp[Addr.add]
theorem dc (n:Int) (h1: -1000000000<=n) (h2:n<=1000000000):IntKind.i64.wrap n=n:=(IntWalk.i64_left n).trans (IntWalk.wrap64_in n ⟨by omega,by omega⟩)
theorem hid {p:Prop} (h:p):Hid p:=h
theorem l9 {k:IntKind} {a b:Int} (h:a=b):Ending.returned (.int k a)= .returned (.int k b):=by rw[h]
theorem eh {P:Program} {fn:Func} {R:Ending->World->Prop} {a:Act} {w:World} (v:Value) {t:Nat} (hf:fn.results=#[.tmp t]) (hd:a.defers=[]) (hc:a.tmps.getD t undef=v) (hR:R (.returned v) w):bodyPost P fn R .ret a w:=by
  refine bodyPost_ret (v:=v) ?_ hd hR;have b:a.tmps[t]?.getD undef=v:=by simpa using hc
  simp[results,hf,b,go_sem]
theorem fY {P:Program} {fn:Func} {R:Ending->World->Prop} {a:Act} {w:World} (hf:fn.results=#[]) (hd:a.defers=[]) (hR:R (.returned (.tuple #[])) w):bodyPost P fn R .ret a w:=by
  refine bodyPost_ret (v:= .tuple #[]) ?_ hd hR;simp[results,hf,go_sem]
end
section
open Go
section
variable {P:Program} {ops:Array Oper} {Q:Exit->Act->World->Prop} {S:World->Prop} {p:Nat}
def th (P:Program) (ops:Array Oper) (Q:Exit->Act->World->Prop) (S:World->Prop) (p q k:Nat) (a:Act) (w:World):Prop:=
 rN P ops Q S p (ops.size-(k+1)) ((iS ops.size k).setIfInBounds q true) a w
theorem oJ {k q:Nat} {o oq:Oper} {rest restq:List Oper} {a:Act} {w:World} (hod:ops.toList.drop k=o::rest) (hodq:ops.toList.drop q=oq::restq)
  (hr:Region.ready .any ops (iS ops.size k)=[k,q])
  (h: ∀K':Act->World->Prop,Go.Shut (∀a w,(k<p->S w)->lE P ops Q S p (k+1) a w->K' a w)->if Region.wanted o (yielded ops a.tmps)=true then Oper.wp P o a w K' Q else K' (a.put o.dst undef) w)
  (h2: ∀K':Act->World->Prop,Go.Shut (∀a w,(q<p->S w)->th P ops Q S p q k a w->K' a w)->if Region.wanted oq (yielded ops a.tmps)=true then Oper.wp P oq a w K' Q else K' (a.put oq.dst undef) w):
  lE P ops Q S p k a w:=by
 have c:=gy hod;have b:=gy hodq;have d:k<ops.size:=(Array.getElem?_eq_some_iff.1 c).1;unfold lE;rw[show ops.size-k=(ops.size-(k+1))+1 from by omega];refine⟨λh=>(by rw[hr]at h;cases h),λi hi=> ?_⟩;rw[hr]at hi;simp only[List.mem_cons,List.not_mem_nil,or_false]at hi;obtain rfl|rfl:=hi
 .exact wpOp_step c (λK' hK=>h K' (λa w hS hW=>hK a w ⟨hS,by rw[jH];exact hW⟩))
 .exact wpOp_step b (λK' hK=>h2 K' (λa w hS hW=>hK a w ⟨hS,hW⟩))
theorem nA (n k q:Nat) (h:k≠q):((iS n k).setIfInBounds q true).setIfInBounds k true=(iS n (k+1)).setIfInBounds q true:=by
 rw[Array.setIfInBounds_comm _ _ (Ne.symm h),jH]
theorem oK {k q:Nat} {o:Oper} {rest:List Oper} {a:Act} {w:World} (hod:ops.toList.drop k=o::rest) (h: ∀K':Act->World->Prop,Go.Shut (∀a w,(k<p->S w)->th P ops Q S p q (k+1) a w->K' a w)->if Region.wanted o (yielded ops a.tmps)=true then Oper.wp P o a w K' Q else K' (a.put o.dst undef) w) (hkq:(decide (k<q)&&decide (k+1<ops.size))=true:=by kernel_rfl) (hr:Region.ready .any ops ((iS ops.size k).setIfInBounds q true)=[k]:=by kernel_rfl):th P ops Q S p q k a w:=by
 have b:=gy hod;simp only[Bool.and_eq_true,decide_eq_true_eq]at hkq;unfold th;rw[show ops.size-(k+1)=(ops.size-(k+1+1))+1 from by omega];refine⟨λh=>(by rw[hr]at h;cases h),λi hi=> ?_⟩;rw[hr]at hi;simp at hi;subst hi;exact wpOp_step b (λK' hK=>h K' (λa w hS hW=>hK a w ⟨hS,by rw[nA _ _ _ (by omega)];exact hW⟩))
def yf (ops:Array Oper) (p q k:Nat):Bool:=
 decide (k<q)&&decide (k+1<ops.size)&&decide (k<p)&&Region.noSelect ops&&Region.free .any ops ((iS ops.size k).setIfInBounds q true) k&&(Region.ready .any ops ((iS ops.size k).setIfInBounds q true)).contains k&&
 (List.range ops.size).all λj=>decide (j<p)||match ops[j]? with
  |some oj=>oj.after.any λe=>Region.binds .any e&&e.on==k
  |none=>true
theorem oL {k q:Nat} {o:Oper} {rest:List Oper} {v:Value} {a:Act} {w:World} (hod:ops.toList.drop k=o::rest) (hS:S w) (hy: ∀w,S w->(execOp a.eval o).run P w= .ok (.value v) w) (h:th P ops Q S p q (k+1) (a.put o.dst v) w) (hc:yf ops p q k=true:=by kernel_rfl) (hQ: ∀c a w,Q (.panic c) (a.put o.dst v) w->Q (.panic c) a w:=by exact λ_ _ _ h=>h) (hw:Region.wanted o (yielded ops a.tmps)=true:=by exact rfl):th P ops Q S p q k a w:=by
 have n:=gy hod;unfold yf at hc;simp only[Bool.and_eq_true,decide_eq_true_eq,List.all_eq_true,List.mem_range]at hc;obtain⟨⟨⟨⟨⟨⟨r,s⟩,e⟩,f⟩,b⟩,g⟩,l⟩:=hc;unfold th at*;rw[show ops.size-(k+1)=(ops.size-(k+1+1))+1 from by omega];refine mT n e (Region.noSelect_spec f) ?_ hQ _ _ a w (Region.free_spec n b) (by simpa using g) (Or.inl ⟨hw,hy⟩) hS (by rw[nA _ _ _ (by omega)];exact h);intro j oj m t;have d:j<ops.size:=(Array.getElem?_eq_some_iff.1 m).1;have:=l j d;rw[m]at this;simp only[Bool.or_eq_true,decide_eq_true_eq,Array.any_eq_true,Bool.and_eq_true,beq_iff_eq]at this;obtain h1| ⟨i,hi,h1,h2⟩:=this
 .omega
 .exact⟨oj.after[i],Array.getElem_mem hi,h1,h2⟩
theorem oM {q:Nat} {a:Act} {w:World} (h:lE P ops Q S p (q+1) a w):th P ops Q S p q q a w:=by
 unfold th;rw[jH];exact h
def has (n:Nat) (L:List Nat):Array Bool:=((List.range n).map λi=>L.contains i).toArray
theorem pU (n k:Nat) (L:List Nat):(has n L).setIfInBounds k true=has n (k::L):=by
 unfold has
 apply Array.ext
 .simp
 .intro i a b
  by_cases h:k=i
  .subst h;simp
  .rw[Array.getElem_setIfInBounds_ne (by simpa using a) h];have h': ¬i=k:=λe=>h e.symm
   simp[h']
theorem CQ (n:Nat):Array.replicate n false=has n []:=by
 unfold has
 apply Array.ext
 .simp
 .intro i a b;simp
def ti (ops:Array Oper) (p:Nat) (L:List Nat) (k:Nat):Bool:=
 decide (k<p)&&Region.noSelect ops&&Region.free .any ops (has ops.size L) k&&(Region.ready .any ops (has ops.size L)).contains k&&
 (List.range ops.size).all λj=>decide (j<p)||match ops[j]? with
  |some oj=>oj.after.any λe=>Region.binds .any e&&e.on==k
  |none=>true
def wpP (P:Program) (ops:Array Oper) (Q:Exit->Act->World->Prop) (S:World->Prop) (p:Nat) (L:List Nat) (a:Act) (w:World):Prop:=
 rN P ops Q S p (ops.size-L.length) (has ops.size L) a w
theorem fR {id:Nat} {a:Act} {w:World} (S:World->Prop) (p:Nat) (h:wpP P ops Q S p [] a w.drew) (hm:P.follows .mixedOrders=true:=by kernel_rfl):(Code.region id ops true).wp P Q a w:=by
 refine wp_region_any hm (lD (S:=S) (p:=p) _ _ _ _ ?_);rw[CQ];exact h
theorem AX {k:Nat} {L:List Nat} {o:Oper} {v:Value} {a:Act} {w:World} (ho:ops[k]?=some o) (hS:S w) (hy: ∀w,S w->(execOp a.eval o).run P w= .ok (.value v) w) (h:wpP P ops Q S p (k::L) (a.put o.dst v) w) (hl:L.length<ops.size:=by decide) (hc:ti ops p L k=true:=by kernel_rfl) (hQ: ∀c a w,Q (.panic c) (a.put o.dst v) w->Q (.panic c) a w:=by exact λ_ _ _ h=>h) (hw:Region.wanted o (yielded ops a.tmps)=true:=by exact rfl):wpP P ops Q S p L a w:=by
 unfold ti at hc;simp only[Bool.and_eq_true,decide_eq_true_eq,List.all_eq_true,List.mem_range]at hc;obtain⟨⟨⟨⟨e,f⟩,b⟩,g⟩,l⟩:=hc;unfold wpP at*;rw[show ops.size-L.length=(ops.size-(k::L).length)+1 from by simp;omega];refine mT ho e (Region.noSelect_spec f) ?_ hQ _ _ a w (Region.free_spec ho b) (by simpa using g) (Or.inl ⟨hw,hy⟩) hS (by rw[pU];exact h);intro j oj m n;have d:j<ops.size:=(Array.getElem?_eq_some_iff.1 m).1;have:=l j d;rw[m]at this;simp only[Bool.or_eq_true,decide_eq_true_eq,Array.any_eq_true,Bool.and_eq_true,beq_iff_eq]at this;obtain h1| ⟨i,hi,h1,h2⟩:=this
 .omega
 .exact⟨oj.after[i],Array.getElem_mem hi,h1,h2⟩
theorem aM {k:Nat} {L:List Nat} {o:Oper} {a:Act} {w:World} (ho:ops[k]?=some o) (h: ∀K':Act->World->Prop,Go.Shut (∀a w,(k<p->S w)->wpP P ops Q S p (k::L) a w->K' a w)->if Region.wanted o (yielded ops a.tmps)=true then Oper.wp P o a w K' Q else K' (a.put o.dst undef) w) (hl:L.length<ops.size:=by decide) (hr:Region.ready .any ops (has ops.size L)=[k]:=by kernel_rfl):wpP P ops Q S p L a w:=by
 unfold wpP;rw[show ops.size-L.length=(ops.size-(k::L).length)+1 from by simp;omega];refine⟨λh=>(by rw[hr]at h;cases h),λi hi=> ?_⟩;rw[hr]at hi;simp at hi;subst hi;exact wpOp_step ho (λK' hK=>h K' (λa w hS hW=>hK a w ⟨hS,by rw[pU];exact hW⟩))
theorem pV {k1 k2:Nat} {L:List Nat} {o1 o2:Oper} {a:Act} {w:World} (ho1:ops[k1]?=some o1) (ho2:ops[k2]?=some o2) (hl:L.length<ops.size) (hr:Region.ready .any ops (has ops.size L)=[k1,k2])
  (h1: ∀K':Act->World->Prop,Go.Shut (∀a w,(k1<p->S w)->wpP P ops Q S p (k1::L) a w->K' a w)->if Region.wanted o1 (yielded ops a.tmps)=true then Oper.wp P o1 a w K' Q else K' (a.put o1.dst undef) w)
  (h2: ∀K':Act->World->Prop,Go.Shut (∀a w,(k2<p->S w)->wpP P ops Q S p (k2::L) a w->K' a w)->if Region.wanted o2 (yielded ops a.tmps)=true then Oper.wp P o2 a w K' Q else K' (a.put o2.dst undef) w):wpP P ops Q S p L a w:=by
 unfold wpP;rw[show ops.size-L.length=(ops.size-(L.length+1))+1 from by omega];refine⟨λh=>(by rw[hr]at h;cases h),λi hi=> ?_⟩;rw[hr]at hi;simp only[List.mem_cons,List.not_mem_nil,or_false]at hi;obtain rfl|rfl:=hi
 .exact wpOp_step ho1 (λK' hK=>h1 K' (λa w hS hW=>hK a w ⟨hS,by rw[pU];exact hW⟩))
 .exact wpOp_step ho2 (λK' hK=>h2 K' (λa w hS hW=>hK a w ⟨hS,by rw[pU];exact hW⟩))
def D9 (P:Program) (ops:Array Oper) (Q:Exit->Act->World->Prop) (S:World->Prop) (p:Nat) (_ L:List Nat) (a:Act) (w:World):Prop:=wpP P ops Q S p L a w
theorem eR {L:List Nat} {a:Act} {w:World} (ks:List Nat) (h:D9 P ops Q S p ks L a w):wpP P ops Q S p L a w:=h
theorem fS {k:Nat} {ks L:List Nat} {o:Oper} {v:Value} {a:Act} {w:World} (ho:ops[k]?=some o) (hS:S w) (hy: ∀w,S w->(execOp a.eval o).run P w= .ok (.value v) w) (h:D9 P ops Q S p ks (k::L) (a.put o.dst v) w) (hl:L.length<ops.size:=by decide) (hc:ti ops p L k=true:=by kernel_rfl)
  (hQ: ∀c a w,Q (.panic c) (a.put o.dst v) w->Q (.panic c) a w:=by exact λ_ _ _ h=>h) (hw:Region.wanted o (yielded ops a.tmps)=true:=by exact rfl):D9 P ops Q S p (k::ks) L a w:=AX ho hS hy h hl hc hQ hw
theorem eE {L:List Nat} {a:Act} {w:World} (hl:L.length=ops.size) (h:Q .normal a w) (hr:Region.ready .any ops (has ops.size L)=[]:=by kernel_rfl):wpP P ops Q S p L a w:=by
 unfold wpP;rw[hl,Nat.sub_self];exact⟨hr,h⟩
theorem uK {i:Nat} {oi:Oper} {v:Value} (T:Nat->Prop) (hi:ops[i]?=some oi) (hip:i<p) (hsel: ∀(j:Nat) (o:Oper) cs b,ops[j]?=some o->o.op≠ .select cs b)
  (hT1: ∀j oj,ops[j]?=some oj->p<=j->T j) (hT2: ∀j oj,ops[j]?=some oj->T j-> ∃e∈oj.after,Region.binds .any e=true/\(e.on=i\/T e.on))
  (hQ: ∀c a w,Q (.panic c) (a.put oi.dst v) w->Q (.panic c) a w):
  ∀(fuel:Nat) (listed:Array Bool) (a:Act) (w:World),(∀j,T j->listed.getD j false=false)->
   (∀j oj,ops[j]?=some oj->j≠i->listed.getD j true=false->(∀e∈oj.after,Region.binds .any e=true->e.on≠i)->oi.apart ops oj=true)->
   i∈Region.ready .any ops listed->YieldsIf P ops S oi v a->S w->
   rN P ops Q S p fuel (listed.setIfInBounds i true) (a.put oi.dst v) w->rN P ops Q S p (fuel+1) listed a w:=by
 intro fuel
 induction fuel with
 |zero=>
  intro listed a w _ _ s D t H;refine⟨λh=>(by rw[h]at s;cases s),λj hj=> ?_⟩
  by_cases hji:j=i
  .subst hji;exact D.wpOp hi t ⟨λ_=>t,H⟩
  .have:=ready_mono hj hji;rw[H.1]at this
   cases this
 |succ fuel ih=>
  intro listed a w x d s D t H;refine⟨λh=>(by rw[h]at s;cases s),λj hj=> ?_⟩
  by_cases hji:j=i
  .subst hji;exact D.wpOp hi t ⟨λ_=>t,H⟩
  .have g:=H.2 j (ready_mono hj hji);obtain⟨q,oj,f,n⟩:=mem_ready.1 hj
   have r: ∀e∈oj.after,Region.binds .any e=true->e.on≠i:=λe C B heq=>by
    have g:=n e C B;have G:=(mem_ready.1 s).1;rw[heq]at g;obtain h'|h':=Nat.lt_or_ge i listed.size
    .simp[h']at G g;rw[G]at g;cases g
    .simp[Array.getElem?_eq_none h']at g
   have z: ¬T j:=λhT=>by
    obtain⟨e,C,B,A⟩:=hT2 j oj f hT;obtain A|A:=A
    .exact r e C B A
    .have g:=n e C B;have E:=x e.on A;rw[E]at g
     cases g
   have F:j<p:=by
    obtain h|h:=Nat.lt_or_ge j p
    .exact h
    .exact absurd (hT1 j oj f h) z
   have E:=wpOp_putIf f (d j oj f hji q r) (λcs b=>hsel i oi cs b hi) (λcs b=>hsel j oj cs b f) hQ D g
   have l: ∀k ok,ops[k]?=some ok->k≠i->(listed.setIfInBounds j true).getD k true=false->
     (∀e∈ok.after,Region.binds .any e=true->e.on≠i)->oi.apart ops ok=true:=λk ok hk hki hun hno=>by
    refine d k ok hk hki ?_ hno
    by_cases m:j=k
    .subst m;exact q
    .rw[getD_set_ne true m]at hun;exact hun
   have y: ∀k,T k->(listed.setIfInBounds j true).getD k false=false:=λk hk=>by
    have m:j≠k:=λe=>z (e▸hk)
    have:=x k hk;simpa[Array.getElem?_setIfInBounds_ne m]using this
   refine wpOp_mono (λa' w' h3=>⟨h3.2.1,ih (listed.setIfInBounds j true) a' w' y l (ready_mono s (Ne.symm hji)) h3.1 (h3.2.1 F) ?_⟩) E;rw[Array.setIfInBounds_comm _ _ hji];exact h3.2.2
def yg (ops:Array Oper) (k:Nat):List Nat:=(List.range ops.size).foldl (λL j=>match ops[j]? with
 |some oj=>if oj.after.any (λe=>Region.binds .any e&&(e.on==k||L.contains e.on))then j::L else L
 |none=>L) []
def yh (ops:Array Oper) (p k:Nat):Bool:=
 decide (k<p)&&Region.noSelect ops&&Region.free .any ops (iS ops.size k) k&&(Region.ready .any ops (iS ops.size k)).contains k&&
 ((List.range ops.size).all λj=>decide (j<p)||(yg ops k).contains j)&&
 (yg ops k).all λj=>decide (k<=j)&&match ops[j]? with
  |some oj=>oj.after.any λe=>Region.binds .any e&&(e.on==k||(yg ops k).contains e.on)
  |none=>false
theorem qg {k:Nat} {o:Oper} {rest:List Oper} {v:Value} {a:Act} {w:World} (hod:ops.toList.drop k=o::rest) (hS:S w) (hy: ∀w,S w->(execOp a.eval o).run P w= .ok (.value v) w) (h:lE P ops Q S p (k+1) (a.put o.dst v) w) (hc:yh ops p k=true:=by kernel_rfl) (hQ: ∀c a w,Q (.panic c) (a.put o.dst v) w->Q (.panic c) a w:=by exact λ_ _ _ h=>h) (hw:Region.wanted o (yielded ops a.tmps)=true:=by exact rfl):lE P ops Q S p k a w:=by
 have n:=gy hod;unfold yh at hc;generalize yg ops k=L at hc;simp only[Bool.and_eq_true,decide_eq_true_eq,List.all_eq_true,List.mem_range]at hc;obtain⟨⟨⟨⟨⟨l,m⟩,f⟩,q⟩,r⟩,s⟩:=hc;have y:k<ops.size:=(Array.getElem?_eq_some_iff.1 n).1;unfold lE at*;rw[show ops.size-k=(ops.size-(k+1))+1 from by omega];refine uK (λj=>j∈L) n l (Region.noSelect_spec m) ?_ ?_ hQ _ _ a w ?_ (Region.free_spec n f) (by simpa using q) (Or.inl ⟨hw,hy⟩) hS (by rw[jH];exact h)
 .intro j oj b x;have g:j<ops.size:=(Array.getElem?_eq_some_iff.1 b).1;have:=r j g;simp only[Bool.or_eq_true,decide_eq_true_eq]at this;obtain d|d:=this
  .omega
  .simpa using d
 .intro j oj b e;have:=(s j e).2;rw[b]at this;simp only[Array.any_eq_true,Bool.and_eq_true,Bool.or_eq_true,beq_iff_eq]at this;obtain⟨i,hi,d,t⟩:=this;exact⟨oj.after[i],Array.getElem_mem hi,d,t.imp_right (λh=>by simpa using h)⟩
 .intro j e;have:=(s j e).1;obtain b|b:=Nat.lt_or_ge j ops.size
  .simp[iS,b];omega
  .simp[iS,b]
end
end
section
open Go Go.RowKit
abbrev aa:= @But.alloc
abbrev aj:= @But.setB
abbrev aA:= @But.drew
abbrev aH:= @But.drewN
abbrev aG:= @List.getElem?_eq_getElem
theorem bc {α:Type _} {l:List α} {i:Nat} {a:α} (h:l[i]?=some a): ∃h:i<l.length,l[i]=a:=List.getElem?_eq_some_iff.1 h
abbrev bn:= @List.mem_of_getElem?
abbrev aN:= @List.length_append
abbrev eF:= @List.length_map
abbrev bH:= @List.getD_eq_getElem?_getD
abbrev cV:= @List.getElem?_map
abbrev bD:= @List.getElem_mem
abbrev bK:= @Nat.lt_of_lt_of_le
abbrev aO:= @heap_alloc_new
abbrev cQ:= @heap_setCell_same
abbrev cz:= @cell_of_row
abbrev bG:= @frozen_of_row
abbrev iu:= @World.news_of_block
abbrev eu:= @beq_eq_false_iff_ne
abbrev ie:= @World.ownsRow.mono
abbrev cA:= @bodyPost_ret
abbrev dy:= @List.getElem?_append_left
abbrev dg:= @decide_eq_true_eq
abbrev dk:= @Bool.and_eq_true
abbrev dS:= @Bool.false_eq_true
abbrev eY:= @Go.wp_at_zero
abbrev eZ:= @Go.wp_at_succ
abbrev f7:= @List.take_succ_eq_append_getElem
abbrev dK:= @List.length_singleton
abbrev bP:= @Nat.le_refl
abbrev aX:= @beq_iff_eq
abbrev f8:= @List.getElem?_append_right
theorem gz {α:Type _} {a:α} {l m:List α} (h:a∈l++m):a∈l\/a∈m:=List.mem_append.1 h
abbrev fd:= @List.take_of_length_le
abbrev fT:= @List.prefix_refl
abbrev gC:= @Nat.lt_or_ge
abbrev iU:= @List.length_cons
abbrev eS:= @Int.le_refl
abbrev jZ:= @Int.toNat_natCast
abbrev bf:= @But.refl
abbrev ky:= @List.append_assoc
abbrev lr:= @List.flatMap_cons
theorem bJ {a b:UInt8} (h:a.toNat=b.toNat):a=b:=UInt8.toNat_inj.1 h
end
section
open Go
abbrev S_ : Value := .slice none 0 0
abbrev B_ := But (λ_ => False)
abbrev L_ := List UInt8
end
end Go.Proofs.YtpfkkmacakjmbaaGreatDoor
