import Derived.Deep.Onto
import Derived.OrdersHeld
import Derived.Deep.RegionHeld3
import Derived.Deep.AppendLies
import Derived.Test.YtpfkkmacakjmbaaGreatDoorProg
import Derived.WalkKit
import Derived.WalkSpells
import Derived.Deep.QuietTactic
import Derived.BigQuiet
import Derived.Deep.LoopGhost
import Derived.Deep.DrawnRows
set_option maxRecDepth 100000
set_option maxHeartbeats 6400000
set_option linter.all false
namespace Go.Proofs.YtpfkkmacakjmbaaGreatDoor
open Proofs.Tryz
namespace Sp
structure Cls where
 par:Int
 fields:List UInt8
structure Sig where
 arg:UInt8
 ret:UInt8
structure Ins where
 op:UInt8
 a:Nat
 b:Nat
 pos:Nat
structure Bod where
 cls:Int
 meth:Int
 zy:List UInt8
 code:List Ins
structure Img where
 zq:List Cls
 zx:List Sig
 zj:List Bod
def pk (s:ByteArray) (i:Nat):UInt8:=if h:i<s.size then s[i]else 0
def aQ (n:Nat) (c:UInt8):Bool:=decide (65<=c.toNat)&&decide (c.toNat<65+n)
def gY (n:Nat) (c:UInt8):Bool:=decide (48<=c.toNat)&&decide (c.toNat<=57)&&decide (c.toNat<48+n)
def cY (n:Nat) (c:UInt8):Bool:=decide (c.toNat=105)||aQ n c
def tys (s:ByteArray) (n:Nat) (e:UInt8):Nat->List UInt8->Nat->Except Nat (List UInt8×Nat)
 |0,t,i=>if pk s i=e then .ok (t,i+1)else .error i
 |k+1,t,i=>if pk s i=e then .ok (t,i+1)else if cY n (pk s i)=true then tys s n e k (t++ [pk s i]) (i+1)else .error i
def Bc (s:ByteArray) (c:UInt8) (i:Nat):Except Nat Nat:=if pk s i=c then .ok (i+1)else .error i
def jb (s:ByteArray) (n i:Nat):Except Nat (Nat×Nat):=if aQ n (pk s i)=true then .ok ((pk s i).toNat-65,i+1)else .error i
def gE (s:ByteArray) (n i:Nat):Except Nat (Nat×Nat):=if gY n (pk s i)=true then .ok ((pk s i).toNat-48,i+1)else .error i
def tyP (s:ByteArray) (n i:Nat):Except Nat (UInt8×Nat):=if cY n (pk s i)=true then .ok (pk s i,i+1)else .error i
def inh (cs:List Cls) (p:Int):List UInt8:=if p<0 then []else(cs[p.toNat]?.map (·.fields)).getD []
def mM (s:ByteArray) (n i:Nat):Except Nat (Int×Nat):=
 if(pk s i).toNat=45 then .ok (-1,i+1)else
 match jb s n i with
 | .ok (p,j)=> .ok ((p:Int),j)
 | .error j=> .error j
def fw (s:ByteArray):Nat->List Cls->Nat->Except Nat (List Cls×Nat)
 |0,cs,i=>if(pk s i).toNat=59 then .ok (cs,i+1)else .error i
 |k+1,cs,i=>if(pk s i).toNat=59 then .ok (cs,i+1)else
  match mM s cs.length i with
  | .error j=> .error j
  | .ok (p,j)=>
   match tys s (cs.length+1) 46 2 [] j with
   | .error l=> .error l
   | .ok (own,l)=>fw s k (cs++ [⟨p,inh cs p++own⟩]) l
def jU (s:ByteArray) (n:Nat):Nat->List Sig->Nat->Except Nat (List Sig×Nat)
 |0,gs,i=>if(pk s i).toNat=59 then .ok (gs,i+1)else .error i
 |k+1,gs,i=>if(pk s i).toNat=59 then .ok (gs,i+1)else
  match tyP s n i with
  | .error j=> .error j
  | .ok (a,j)=>
   match tyP s n j with
   | .error l=> .error l
   | .ok (b,l)=>
    match Bc s 46 l with
    | .error m=> .error m
    | .ok m=>jU s n k (gs++ [⟨a,b⟩]) m
def db (cs:List Cls) (a:Nat):Nat:=((cs[a]?.map (·.fields)).getD []).length
def dL (s:ByteArray) (cs:List Cls) (ns nl:Nat) (c i:Nat):Except Nat (Nat×Nat×Nat):=
 if c=108\/c=115 then
  match gE s nl i with
  | .ok (b,j)=> .ok (0,b,j)
  | .error j=> .error j
 else if c=107 then
  match gE s 10 i with
  | .ok (b,j)=> .ok (0,b,j)
  | .error j=> .error j
 else if c=110\/c=120 then
  match jb s cs.length i with
  | .ok (a,j)=> .ok (a,0,j)
  | .error j=> .error j
 else if c=103\/c=112 then
  match jb s cs.length i with
  | .error j=> .error j
  | .ok (a,j)=>
   match gE s (db cs a) j with
   | .ok (b,l)=> .ok (a,b,l)
   | .error l=> .error l
 else if c=99 then
  match jb s cs.length i with
  | .error j=> .error j
  | .ok (a,j)=>
   match gE s ns j with
   | .ok (b,l)=> .ok (a,b,l)
   | .error l=> .error l
 else if c=106\/c=102 then
  match gE s 10 i with
  | .error j=> .error j
  | .ok (a,j)=>
   match gE s 10 j with
   | .ok (b,l)=> .ok (0,10*a+b,l)
   | .error l=> .error l
 else .ok (0,0,i)
def df:List Nat:=[107,114,119,108,115,43,45,42,47,60,61,101,110,122,103,112,99,120,100,106,102,116]
def oG (s:ByteArray) (cs:List Cls) (ns nl i:Nat):Except Nat (Ins×Nat):=
 if df.contains (pk s i).toNat=true then
  match dL s cs ns nl (pk s i).toNat (i+1)with
  | .ok (a,b,j)=> .ok (⟨pk s i,a,b,i⟩,j)
  | .error j=> .error j
 else .error i
def gZ (s:ByteArray) (cs:List Cls) (ns nl:Nat):Nat->List Ins->Nat->Except Nat (List Ins×Nat)
 |0,is,i=>if(pk s i).toNat=46/\is≠ []then .ok (is,i+1)else .error i
 |k+1,is,i=>if(pk s i).toNat=46/\is≠ []then .ok (is,i+1)else
  match oG s cs ns nl i with
  | .error j=> .error j
  | .ok (x,j)=>gZ s cs ns nl k (is++ [x]) j
def lA (bs:List Bod) (x m:Int):Option Nat:=bs.findIdx? λb=>b.cls==x&&b.meth==m
def jc (gs:List Sig) (m:Nat):UInt8:=(gs[m]?.map (·.arg)).getD 0
def kf (s:ByteArray) (cs:List Cls) (gs:List Sig):Nat->List Bod->Nat->Except Nat (List Bod×Nat)
 |0,bs,i=>if(pk s i).toNat=59 then .ok (bs,i+1)else .error i
 |k+1,bs,i=>if(pk s i).toNat=59 then .ok (bs,i+1)else
  match jb s cs.length i with
  | .error j=> .error j
  | .ok (x,j)=>
   match gE s gs.length j with
   | .error l=> .error l
   | .ok (m,l)=>
    if(lA bs x m).isSome=true then .error j else
    match tys s cs.length 58 3 [] l with
    | .error p=> .error p
    | .ok (t,p)=>
     match gZ s cs gs.length (t.length+2) 100 [] p with
     | .error q=> .error q
     | .ok (is,q)=>kf s cs gs k (bs++ [⟨x,m,UInt8.ofNat (65+x)::jc gs m::t,is⟩]) q
def iv (s:ByteArray):Except Nat Img:=
 match fw s 4 [] 0 with
 | .error i=> .error i
 | .ok (cs,i)=>
  match jU s cs.length 3 [] i with
  | .error j=> .error j
  | .ok (gs,j)=>
   match kf s cs gs 6 [] j with
   | .error l=> .error l
   | .ok (bs,l)=>
    match tys s cs.length 58 3 [] l with
    | .error p=> .error p
    | .ok (t,p)=>
     match gZ s cs gs.length t.length 100 [] p with
     | .error q=> .error q
     | .ok (is,q)=>if q<s.size then .error q else .ok ⟨cs,gs,bs++ [⟨-1,-1,t,is⟩]⟩
theorem jx {s:ByteArray} {n:Nat} {e:UInt8}: ∀{k:Nat} {t:List UInt8} {i:Nat} {r:List UInt8} {j:Nat},tys s n e k t i= .ok (r,j)->r.length<=k+t.length:=by
 intro k
 induction k with
 |zero=>
  intro t i r j h;unfold tys at h
  split at h
  .cases h;omega
  .cases h
 |succ k ih=>
  intro t i r j h;unfold tys at h
  split at h
  .cases h;omega
  .split at h
   .have:=ih h;simp at this;omega
   .cases h
theorem jy {s:ByteArray} {n:Nat} {e:UInt8}: ∀{k:Nat} {t:List UInt8} {i:Nat} {r:List UInt8} {j:Nat},(∀c∈t,cY n c=true)->tys s n e k t i= .ok (r,j)-> ∀c∈r,cY n c=true:=by
 intro k
 induction k with
 |zero=>
  intro t i r j ht h;unfold tys at h
  split at h
  .cases h;exact ht
  .cases h
 |succ k ih=>
  intro t i r j ht h;unfold tys at h
  split at h
  .cases h;exact ht
  .split at h
   .refine ih ?_ h;intro c hc;obtain hc|hc:=List.mem_append.1 hc
    .exact ht c hc
    .simp at hc;subst hc;assumption
   .cases h
def WfC (cs:List Cls):Prop:= ∀(j:Nat) (c:Cls),cs[j]?=some c-> -1<=c.par/\c.par<j/\c.fields.length<=2*(j+1)/\ ∀t∈c.fields,cY (j+1) t=true
theorem gn {n m:Nat} {c:UInt8} (h:n<=m) (hc:cY n c=true):cY m c=true:=by
 simp only[cY,aQ,Bool.or_eq_true,Bool.and_eq_true,decide_eq_true_eq]at*;omega
theorem pH {s:ByteArray} {n i:Nat} {p:Int} {j:Nat} (h:mM s n i= .ok (p,j)):j=i+1/\((p= -1/\(pk s i).toNat=45)\/((pk s i).toNat≠45/\aQ n (pk s i)=true/\p=(((pk s i).toNat-65:Nat):Int))):=by
 unfold mM jb at h
 split at h
 .cases h;exact⟨rfl,Or.inl ⟨rfl,by assumption⟩⟩
 .split at h
  .rename_i hh
   split at hh
   .cases hh;cases h;exact⟨rfl,Or.inr ⟨by assumption,by assumption,rfl⟩⟩
   .cases hh
  .cases h
theorem CX {cs:List Cls} (h:WfC cs) (p:Int):(inh cs p).length<=2*cs.length:=by
 unfold inh
 split
 .simp
 .cases hc:cs[p.toNat]? with
  |none=>simp
  |some c=>
   have a:=(List.getElem?_eq_some_iff.1 hc).1;have b:=(h _ _ hc).2.2.1;simp;omega
theorem sM {s:ByteArray} {cs:List Cls} {p:Int} {i j l:Nat} {own:List UInt8} (h:WfC cs) (hp:mM s cs.length i= .ok (p,j)) (ho:tys s (cs.length+1) 46 2 [] j= .ok (own,l)):
  WfC (cs++ [⟨p,inh cs p++own⟩]):=by
 intro k c hc;obtain hk|hk:=Nat.lt_or_ge k cs.length
 .rw[List.getElem?_append_left hk]at hc;exact h k c hc
 .rw[List.getElem?_append_right hk]at hc
  have a:k-cs.length=0:=by
   have:=(List.getElem?_eq_some_iff.1 hc).1;simp at this;omega
  have b:k=cs.length:=by omega
  rw[a]at hc;simp at hc;subst hc;subst b;obtain⟨_,hp⟩:=pH hp;have d:=CX h p;have e:=jx ho;refine⟨?_,?_,?_,?_⟩
  .obtain⟨rfl,_⟩ | ⟨_,_,rfl⟩:=hp<;>simp<;>omega
  .obtain⟨rfl,_⟩ | ⟨_,hl,rfl⟩:=hp
   .simp;omega
   .simp[aQ]at hl;simp;omega
  .simp at d e⊢;omega
  .intro t ht;simp at ht;obtain ht|ht:=ht
   .unfold inh at ht
    split at ht
    .simp at ht
    .cases hc:cs[p.toNat]? with
     |none=>simp[hc]at ht
     |some c=>
      simp[hc]at ht;have f:=(List.getElem?_eq_some_iff.1 hc).1;exact gn (by omega) ((h _ _ hc).2.2.2 t ht)
   .exact jy (by simp) ho t ht
theorem clsP_wf' {s:ByteArray}: ∀{k:Nat} {cs:List Cls} {i:Nat} {r:List Cls} {j:Nat},WfC cs->fw s k cs i= .ok (r,j)->WfC r/\r.length<=k+cs.length:=by
 intro k
 induction k with
 |zero=>
  intro cs i r j a h;unfold fw at h
  split at h
  .cases h;exact⟨a,by omega⟩
  .cases h
 |succ k ih=>
  intro cs i r j a h;unfold fw at h
  split at h
  .cases h;exact⟨a,by omega⟩
  .split at h
   .cases h
   .rename_i p l hp
    split at h
    .cases h
    .rename_i own m ho
     have:=ih (sM a hp ho) h;simp at this;exact⟨this.1,by omega⟩
theorem sN {s:ByteArray} {i:Nat} {r:List Cls} {j:Nat} (h:fw s 4 [] i= .ok (r,j)):WfC r/\r.length<=4:=by
 have:=clsP_wf' (λj c h=>by simp at h) h;simpa using this
theorem pT {s:ByteArray} {n:Nat}: ∀{k:Nat} {gs:List Sig} {i:Nat} {r:List Sig} {j:Nat},jU s n k gs i= .ok (r,j)->r.length<=k+gs.length:=by
 intro k
 induction k with
 |zero=>
  intro gs i r j h;unfold jU at h
  split at h
  .cases h;omega
  .cases h
 |succ k ih=>
  intro gs i r j h;unfold jU at h
  split at h
  .cases h;omega
  .split at h
   .cases h
   .split at h
    .cases h
    .split at h
     .cases h
     .have:=ih h;simp at this;omega
def mN (bs:List Bod) (x m:Int):Int:=match lA bs x m with
 |some k=>k
 |none=> -1
def dG (cs:List Cls) (x:Int):Int:=(cs[x.toNat]?.map (·.par)).getD (-1)
def cO (cs:List Cls) (bs:List Bod) (m:Int):Nat->Int->Int
 |0,_=> -1
 |f+1,x=>if x<0 then-1 else if 0<=mN bs x m then mN bs x m else cO cs bs m f (dG cs x)
def lB (cs:List Cls) (bs:List Bod) (n:Nat) (x:Ins):Bool:=
 (decide (x.op.toNat=99)&&decide (cO cs bs x.b 5 x.a<0))||((decide (x.op.toNat=106)||decide (x.op.toNat=102))&&decide (n<=x.b))
def unl (cs:List Cls) (bs:List Bod) (c:List Ins):Option Nat:=(c.find? (lB cs bs c.length)).map (·.pos)
def eZ (s:ByteArray):Except (Nat×Nat) Img:=
 if 2000<s.size then .error (1,0)else
 match iv s with
 | .error j=> .error (2,j)
 | .ok im=>
  match im.zj.findSome? (λb=>unl im.zq im.zj b.code)with
  |some p=> .error (3,p)
  |none=> .ok im
structure WfX (cs:List Cls) (ns nl:Nat) (x:Ins):Prop where
 op:df.contains x.op.toNat=true
 pos:x.pos<=2000
 cls:x.op.toNat=110\/x.op.toNat=120\/x.op.toNat=103\/x.op.toNat=112\/x.op.toNat=99->x.a<cs.length
 fld:x.op.toNat=103\/x.op.toNat=112->x.b<db cs x.a
 sig:x.op.toNat=99->x.b<ns
 loc:x.op.toNat=108\/x.op.toNat=115->x.b<nl
 num:x.b<100
structure WfB (cs:List Cls) (gs:List Sig) (b:Bod):Prop where
 code: ∀x∈b.code,WfX cs gs.length b.zy.length x
 len:0<b.code.length/\b.code.length<=100
 loc:b.zy.length<=5/\ ∀t∈b.zy,cY cs.length t=true
 cls:(b.cls= -1/\b.meth= -1)\/(0<=b.cls/\b.cls<cs.length/\0<=b.meth/\b.meth<gs.length)
structure WfI (im:Img):Prop where
 cls:WfC im.zq
 nc:im.zq.length<=4
 ns:im.zx.length<=3
 sig: ∀g∈im.zx,cY im.zq.length g.arg=true/\cY im.zq.length g.ret=true
 bod: ∀b∈im.zj,WfB im.zq im.zx b
 nb:im.zj.length<=7
theorem yw {s:ByteArray} {i:Nat} (h:0<(pk s i).toNat):i<s.size:=by
 unfold pk at h
 split at h
 .assumption
 .simp at h
theorem fx {s:ByteArray} {n i d j:Nat} (h:gE s n i= .ok (d,j)):d<n/\d<10:=by
 unfold gE at h
 split at h
 .rename_i hd
  cases h
  simp[gY]at hd;omega
 .cases h
theorem kg {s:ByteArray} {n i d j:Nat} (h:jb s n i= .ok (d,j)):d<n:=by
 unfold jb at h
 split at h
 .rename_i hd
  cases h
  simp[aQ]at hd;omega
 .cases h
theorem CY {s:ByteArray} {cs:List Cls} {ns nl i:Nat} {x:Ins} {j:Nat} (hs:s.size<=2000) (h:oG s cs ns nl i= .ok (x,j)):WfX cs ns nl x:=by
 unfold oG at h
 split at h
 .rename_i hl
  split at h
  .rename_i a b l ho
   cases h
   have hp:i<s.size:=yw (by
    obtain h|h:=Nat.eq_zero_or_pos (pk s i).toNat
    .rw[h]at hl;exact absurd hl (by decide)
    .exact h)
   refine⟨hl,by simp;omega,?_,?_,?_,?_,?_⟩
   all_goals simp only
   all_goals
    unfold dL at ho
    repeat' split at ho
   all_goals first
    | (cases ho;done)
    |skip
   all_goals (intros;first|omega|skip)
   all_goals (cases ho;first|omega| (have:=fx ‹_›;omega) | (have:=kg ‹_›;omega) | (have c:=fx ‹gE s 10 (i+1)=_›;have d:=fx ‹gE s 10 _=Except.ok (_,j)›;omega))
  .cases h
 .cases h
theorem ug {s:ByteArray} {cs:List Cls} {ns nl:Nat} (hs:s.size<=2000): ∀{k:Nat} {is:List Ins} {i:Nat} {r:List Ins} {j:Nat},(∀x∈is,WfX cs ns nl x)->gZ s cs ns nl k is i= .ok (r,j)->(∀x∈r,WfX cs ns nl x)/\0<r.length/\r.length<=k+is.length:=by
 intro k
 induction k with
 |zero=>
  intro is i r j a h;unfold gZ at h
  split at h
  .rename_i hc;cases h;exact⟨a,List.length_pos_iff.2 hc.2,by omega⟩
  .cases h
 |succ k ih=>
  intro is i r j a h;unfold gZ at h
  split at h
  .rename_i hc;cases h;exact⟨a,List.length_pos_iff.2 hc.2,by omega⟩
  .split at h
   .cases h
   .rename_i x l hx
    have:=ih (λy hy=>by
     obtain hy|hy:=List.mem_append.1 hy
     .exact a y hy
     .simp at hy;subst hy;exact CY hs hx) h
    simp at this;exact⟨this.1,this.2.1,by omega⟩
theorem uh {s:ByteArray} {n:Nat}: ∀{k:Nat} {gs:List Sig} {i:Nat} {r:List Sig} {j:Nat},(∀g∈gs,cY n g.arg=true/\cY n g.ret=true)->jU s n k gs i= .ok (r,j)-> ∀g∈r,cY n g.arg=true/\cY n g.ret=true:=by
 intro k
 induction k with
 |zero=>
  intro gs i r j c h;unfold jU at h
  split at h
  .cases h;exact c
  .cases h
 |succ k ih=>
  intro gs i r j c h;unfold jU at h
  split at h
  .cases h;exact c
  .split at h
   .cases h
   .rename_i a l1 h1
    split at h
    .cases h
    .rename_i b l2 h2
     split at h
     .cases h
     .refine ih (λg hg=> ?_) h;obtain hg|hg:=List.mem_append.1 hg
      .exact c g hg
      .simp at hg;subst hg;unfold tyP at h1 h2
       split at h1<;>split at h2<;>first| (cases h1;done) | (cases h2;done) |skip
       cases h1
       cases h2
       exact⟨by assumption,by assumption⟩
theorem pV {n x:Nat} (hx:x<n) (hn:n<=4):cY n (UInt8.ofNat (65+x))=true:=by
 have:(UInt8.ofNat (65+x)).toNat=65+x:=by rw[UInt8.toNat_ofNat'];omega
 unfold cY aQ;rw[this];simp;omega
theorem CZ {s:ByteArray} {cs:List Cls} {gs:List Sig} (hs:s.size<=2000) (hn:cs.length<=4) (hg: ∀g∈gs,cY cs.length g.arg=true/\cY cs.length g.ret=true): ∀{k:Nat} {bs:List Bod} {i:Nat} {r:List Bod} {j:Nat},(∀b∈bs,WfB cs gs b)->kf s cs gs k bs i= .ok (r,j)->(∀b∈r,WfB cs gs b)/\r.length<=k+bs.length:=by
 intro k
 induction k with
 |zero=>
  intro bs i r j d h;unfold kf at h
  split at h
  .cases h;exact⟨d,by omega⟩
  .cases h
 |succ k ih=>
  intro bs i r j d h;unfold kf at h
  split at h
  .cases h;exact⟨d,by omega⟩
  .split at h
   .cases h
   .rename_i x l1 h1
    split at h
    .cases h
    .rename_i m l2 h2
     split at h
     .cases h
     .split at h
      .cases h
      .rename_i t l3 h3
       split at h
       .cases h
       .rename_i is l4 h4
        have hx:=kg h1;have hm:=fx h2;have ht:=jx h3;have ha:=jy (by simp) h3;have hc:=ug hs (by simp) h4
        have:=ih (λb hb=>by
         obtain hb|hb:=List.mem_append.1 hb
         .exact d b hb
         .rw[List.mem_singleton]at hb;subst hb;refine⟨hc.1,⟨hc.2.1,by simpa using hc.2.2⟩,⟨by simp at ht⊢;omega,?_⟩,Or.inr ⟨by simp,by simp;omega,by simp,by simp;omega⟩⟩;intro c a;rw[List.mem_cons,List.mem_cons]at a;obtain rfl|rfl|a:=a
          .exact pV hx hn
          .unfold jc;rw[List.getElem?_eq_getElem (by omega)];exact(hg _ (List.getElem_mem _)).1
          .exact ha c a) h
        simp at this;exact⟨this.1,by omega⟩
theorem pW {s:ByteArray} {im:Img} (hs:s.size<=2000) (h:iv s= .ok im):WfI im:=by
 unfold iv at h
 split at h
 .cases h
 .rename_i cs l1 h1
  split at h
  .cases h
  .rename_i gs l2 h2
   split at h
   .cases h
   .rename_i bs l3 h3
    split at h
    .cases h
    .rename_i t l4 h4
     split at h
     .cases h
     .rename_i is l5 h5
      split at h
      .cases h
      .cases h
       have hc:=sN h1;have e:=pT h2;have d:=uh (by simp) h2;have hb:=CZ hs hc.2 d (by simp) h3;have ht:=jx h4;have f:=jy (by simp) h4;have c:=ug hs (by simp) h5;refine⟨hc.1,hc.2,by simpa using e,d,?_,by simp at hb⊢;omega⟩;intro b a;simp at a;obtain a|rfl:=a
       .exact hb.1 b a
       .exact⟨c.1,⟨c.2.1,by simpa using c.2.2⟩,⟨by simp at ht⊢;omega,f⟩,Or.inl ⟨rfl,rfl⟩⟩
end Sp
section
open Go
section
variable {P:Program} {ops:Array Oper} {Q:Exit->Act->World->Prop} {S:World->Prop} {p:Nat}
def pD (P:Program) (ops:Array Oper) (Q:Exit->Act->World->Prop) (S:World->Prop) (p:Nat):Nat->Array Bool->Act->World->Prop
 |0,listed,a,w=>Region.ready .any ops listed=[]/\Q .normal a w
 |fuel+1,listed,a,w=>
  (Region.ready .any ops listed=[]->Q .normal a w)/\
  ∀i∈Region.ready .any ops listed,wpOp P ops Q i (λa' w'=>(i<p->S w')/\pD P ops Q S p fuel (listed.setIfInBounds i true) a' w') a w
theorem lC: ∀(fuel:Nat) (listed:Array Bool) (a:Act) (w:World),pD P ops Q S p fuel listed a w->wpAny P .any ops Q fuel listed a w
 |0,_,_,_,h=>h
 |fuel+1,_,_,_,h=>⟨h.1,λi hi=>wpOp_mono (λa' w' h'=>lC fuel _ a' w' h'.2) (h.2 i hi)⟩
theorem mO {i:Nat} {oi:Oper} {v:Value} (hi:ops[i]?=some oi) (hip:i<p) (hsel: ∀(j:Nat) (o:Oper) cs b,ops[j]?=some o->o.op≠ .select cs b)
  (hwait: ∀j oj,ops[j]?=some oj->p<=j-> ∃e∈oj.after,Region.binds .any e=true/\e.on=i)
  (hQ: ∀c a w,Q (.panic c) (a.put oi.dst v) w->Q (.panic c) a w):
  ∀(fuel:Nat) (listed:Array Bool) (a:Act) (w:World),
   (∀j oj,ops[j]?=some oj->j≠i->listed.getD j true=false->(∀e∈oj.after,Region.binds .any e=true->e.on≠i)->oi.apart ops oj=true)->
   i∈Region.ready .any ops listed->YieldsIf P ops S oi v a->S w->
   pD P ops Q S p fuel (listed.setIfInBounds i true) (a.put oi.dst v) w->pD P ops Q S p (fuel+1) listed a w:=by
 intro fuel
 induction fuel with
 |zero=>
  intro listed a w _ q t r H;refine⟨λh=>(by rw[h]at q;cases q),λj hj=> ?_⟩
  by_cases hji:j=i
  .subst hji;exact t.wpOp hi r ⟨λ_=>r,H⟩
  .have:=ready_mono hj hji;rw[H.1]at this
   cases this
 |succ fuel ih=>
  intro listed a w d q t r H;refine⟨λh=>(by rw[h]at q;cases q),λj hj=> ?_⟩
  by_cases hji:j=i
  .subst hji;exact t.wpOp hi r ⟨λ_=>r,H⟩
  .have n:=H.2 j (ready_mono hj hji);obtain⟨l,oj,g,s⟩:=mem_ready.1 hj
   have m: ∀e∈oj.after,Region.binds .any e=true->e.on≠i:=λe x hb heq=>by
    have n:=s e x hb;have z:=(mem_ready.1 q).1;rw[heq]at n;obtain h'|h':=Nat.lt_or_ge i listed.size
    .simp[h']at z n;rw[z]at n;cases n
    .simp[Array.getElem?_eq_none h']at n
   have y:j<p:=by
    obtain h|h:=Nat.lt_or_ge j p
    .exact h
    .obtain⟨e,x,hb,B⟩:=hwait j oj g h;exact absurd B (m e x hb)
   have A:=wpOp_putIf g (d j oj g hji l m) (λcs b=>hsel i oi cs b hi) (λcs b=>hsel j oj cs b g) hQ t n
   have f: ∀k ok,ops[k]?=some ok->k≠i->(listed.setIfInBounds j true).getD k true=false->
     (∀e∈ok.after,Region.binds .any e=true->e.on≠i)->oi.apart ops ok=true:=λk ok hk hki hun hno=>by
    refine d k ok hk hki ?_ hno
    by_cases hjk:j=k
    .subst hjk;exact l
    .rw[getD_set_ne true hjk]at hun;exact hun
   refine wpOp_mono (λa' w' h3=>⟨h3.2.1,ih (listed.setIfInBounds j true) a' w' f (ready_mono q (Ne.symm hji)) h3.1 (h3.2.1 y) ?_⟩) A;rw[Array.setIfInBounds_comm _ _ hji];exact h3.2.2
def gW (n k:Nat):Array Bool:=((List.range n).map λi=>decide (i<k)).toArray
theorem iw (n k:Nat):(gW n k).setIfInBounds k true=gW n (k+1):=by
 unfold gW
 apply Array.ext
 .simp
 .intro i a b
  by_cases h:k=i
  .subst h;simp
  .rw[Array.getElem_setIfInBounds_ne (by simpa using a) h];simp;omega
theorem zb (n:Nat):Array.replicate n false=gW n 0:=by
 unfold gW
 apply Array.ext
 .simp
 .intro i a b;simp
def Bd (ops:Array Oper) (p k:Nat):Bool:=
 decide (k<p)&&Region.noSelect ops&&Region.free .any ops (gW ops.size k) k&&(Region.ready .any ops (gW ops.size k)).contains k&&
 (List.range ops.size).all λj=>decide (j<p)||match ops[j]? with
  |some oj=>oj.after.any λe=>Region.binds .any e&&e.on==k
  |none=>true
def kh (P:Program) (ops:Array Oper) (Q:Exit->Act->World->Prop) (S:World->Prop) (p k:Nat) (a:Act) (w:World):Prop:=
 pD P ops Q S p (ops.size-k) (gW ops.size k) a w
theorem aF {id:Nat} {a:Act} {w:World} (S:World->Prop) (p:Nat) (h:kh P ops Q S p 0 a w.drew) (hm:P.follows .mixedOrders=true:=by kernel_rfl):(Code.region id ops true).wp P Q a w:=by
 refine wp_region_any hm (lC (S:=S) (p:=p) _ _ _ _ ?_);rw[zb];exact h
theorem bW:(∀(l:List Value) (i:Nat) (v:Value),l.toArray.setIfInBounds i v=(l.set i v).toArray)/\(∀(x:Value) (l:List Value) (v:Value),(x::l).set 0 v=v::l)/\
  (∀(x:Value) (l:List Value) (n:Nat) (v:Value),(x::l).set (n+1) v=x::l.set n v):=⟨λ_ _ _=>by simp,λ_ _ _=>rfl,λ_ _ _ _=>rfl⟩
theorem fj {ops:Array Oper} {k:Nat} {o:Oper} {rest:List Oper} (h:ops.toList.drop k=o::rest):ops[k]?=some o:=by
 have a:(ops.toList.drop k)[0]?=some o:=by rw[h];rfl
 rw[List.getElem?_drop,Nat.add_zero]at a;simpa using a
theorem aN {k:Nat} {o:Oper} {rest:List Oper} {v:Value} {a:Act} {w:World} (hod:ops.toList.drop k=o::rest) (hS:S w) (hy: ∀w,S w->(execOp a.eval o).run P w= .ok (.value v) w) (h:kh P ops Q S p (k+1) (a.put o.dst v) w) (hc:Bd ops p k=true:=by kernel_rfl) (hQ: ∀c a w,Q (.panic c) (a.put o.dst v) w->Q (.panic c) a w:=by exact λ_ _ _ h=>h) (hw:Region.wanted o (yielded ops a.tmps)=true:=by exact rfl):kh P ops Q S p k a w:=by
 have g:=fj hod;unfold Bd at hc;simp only[Bool.and_eq_true,decide_eq_true_eq,List.all_eq_true,List.mem_range]at hc;obtain⟨⟨⟨⟨e,f⟩,b⟩,l⟩,m⟩:=hc;have r:k<ops.size:=(Array.getElem?_eq_some_iff.1 g).1;unfold kh at*;rw[show ops.size-k=(ops.size-(k+1))+1 from by omega];refine mO g e (Region.noSelect_spec f) ?_ hQ _ _ a w (Region.free_spec g b) (by simpa using l) (Or.inl ⟨hw,hy⟩) hS (by rw[iw];exact h);intro j oj n q;have d:j<ops.size:=(Array.getElem?_eq_some_iff.1 n).1;have:=m j d;rw[n]at this;simp only[Bool.or_eq_true,decide_eq_true_eq,Array.any_eq_true,Bool.and_eq_true,beq_iff_eq]at this;obtain h1| ⟨i,hi,h1,h2⟩:=this
 .omega
 .exact⟨oj.after[i],Array.getElem_mem hi,h1,h2⟩
theorem au {k:Nat} {o:Oper} {rest:List Oper} {a:Act} {w:World} (hod:ops.toList.drop k=o::rest) (h: ∀K':Act->World->Prop,Go.Shut (∀a w,(k<p->S w)->kh P ops Q S p (k+1) a w->K' a w)->if Region.wanted o (yielded ops a.tmps)=true then Oper.wp P o a w K' Q else K' (a.put o.dst undef) w) (hr:Region.ready .any ops (gW ops.size k)=[k]:=by kernel_rfl):kh P ops Q S p k a w:=by
 have b:=fj hod;have c:k<ops.size:=(Array.getElem?_eq_some_iff.1 b).1;unfold kh;rw[show ops.size-k=(ops.size-(k+1))+1 from by omega];refine⟨λh=>(by rw[hr]at h;cases h),λi hi=> ?_⟩;rw[hr]at hi;simp at hi;subst hi;exact wpOp_step b (λK' hK=>h K' (λa w hS hW=>hK a w ⟨hS,by rw[iw];exact hW⟩))
theorem aK {k:Nat} {a:Act} {w:World} (hk:k=ops.size) (h:Q .normal a w) (hr:Region.ready .any ops (gW ops.size k)=[]:=by kernel_rfl):kh P ops Q S p k a w:=by
 subst hk;unfold kh;rw[Nat.sub_self];exact⟨hr,h⟩
def Be (ops:Array Oper) (p k:Nat):Bool:=decide (p<=k)&&decide (k<=ops.size)&&decide (Region.ready .any ops (gW ops.size ops.size)=[])&&(List.range' k (ops.size-k)).all λj=>decide (Region.ready .any ops (gW ops.size j)=[j])
theorem rO: ∀(m k:Nat) (a:Act) (w:World),k+m=ops.size->p<=k->Region.ready .any ops (gW ops.size ops.size)=[]->(∀j∈List.range' k m,Region.ready .any ops (gW ops.size j)=[j])->wpOps P ops Q (List.range' k m) a w->pD P ops Q S p m (gW ops.size k) a w
 |0,k,a,w,hk,_,h0,_,h=>⟨by rw[show k=ops.size from by omega];exact h0,h⟩
 |m+1,k,a,w,hk,hp,h0,hr,h=>by
  have b:=hr k (by simp[List.range'_succ]);rw[List.range'_succ,wpOps_cons]at h;refine⟨λe=>(by rw[b]at e;cases e),λi hi=> ?_⟩;rw[b,List.mem_singleton]at hi;subst hi;refine wpOp_mono (λa' w' h'=>⟨λe=>absurd e (by omega),?_⟩) h;rw[iw];exact rO m (i+1) a' w' (by omega) (by omega) h0 (λj hj=>hr j (by rw[List.range'_succ];exact List.mem_cons_of_mem _ hj)) h'
theorem md {k:Nat} {rest:List Oper} {a:Act} {w:World} (hod:ops.toList.drop k=rest) (h:wpList P ops Q rest a w) (hc:Be ops p k=true:=by kernel_rfl):kh P ops Q S p k a w:=by
 simp only[Be,Bool.and_eq_true,decide_eq_true_eq,List.all_eq_true]at hc;have hl:rest.length=ops.size-k:=by rw[<-hod];simp
 rw[<-wpOps_eq_wpList (ops:=ops) rest k (λj=>by rw[<-hod,List.getElem?_drop];simp),hl]at h;exact rO _ k a w (by omega) hc.1.1.1 hc.1.2 hc.2 h
end
end
section
open Go Go.RowKit
structure But (F:Nat->Prop) (w w':World):Prop where
 os:w'.os=w.os
 tape:w'.tape=w.tape
 output:w'.output=w.output
 size:w.heap.size<=w'.heap.size
 block: ∀k,k<w.heap.size-> ¬F k->w'.heap[k]?=w.heap[k]?
theorem But.refl (F:Nat->Prop) (w:World):But F w w:=⟨rfl,rfl,rfl,Nat.le_refl _,λ_ _ _=>rfl⟩
theorem But.trans {F:Nat->Prop} {a b c:World} (h:But F a b) (k:But F b c):But F a c:=
 ⟨k.os.trans h.os,k.tape.trans h.tape,k.output.trans h.output,Nat.le_trans h.size k.size,
  λi hi hf=>(k.block i (Nat.lt_of_lt_of_le hi h.size) hf).trans (h.block i hi hf)⟩
theorem But.mono {F G:Nat->Prop} {a b:World} (h:But F a b) (hs: ∀k,k<a.heap.size->F k->G k):But G a b:=
 ⟨h.os,h.tape,h.output,h.size,λk hk hg=>h.block k hk (λhf=>hg (hs k hk hf))⟩
theorem But.next {F G:Nat->Prop} {a b c:World} (h:But G a b) (k:But F b c) (hs: ∀i,i<a.heap.size->F i->G i):But G a c:=
 ⟨k.os.trans h.os,k.tape.trans h.tape,k.output.trans h.output,Nat.le_trans h.size k.size,
  λi hi hf=>(k.block i (Nat.lt_of_lt_of_le hi h.size) (λh'=>hf (hs i hi h'))).trans (h.block i hi hf)⟩
theorem But.drewN (F:Nat->Prop) (w:World) (n:Nat):But F w (w.drewN n):=⟨rfl,rfl,rfl,Nat.le_refl _,λ_ _ _=>rfl⟩
theorem But.drew (F:Nat->Prop) (w:World):But F w w.drew:=⟨rfl,rfl,rfl,Nat.le_refl _,λ_ _ _=>rfl⟩
theorem But.alloc (F:Nat->Prop) (w:World) (o:Obj):But F w (w.alloc o):=
 ⟨rfl,rfl,rfl,by simp,λk hk _=>Below.heap_alloc _ _ _ hk⟩
theorem But.setCell {F:Nat->Prop} (w:World) {a:Addr} (ha:F a.block) (u:Value):But F w (w.setCell a u):=
 ⟨rfl,rfl,rfl,by simp[World.setCell],λk _ hf=>Below.heap_setCell _ _ _ _ (λe=>hf (e▸ha))⟩
theorem But.setB (w:World) (b j:Nat) (u:Value):But (· =b) w (w.setCell ⟨b,j,none⟩ u):=But.setCell (F:=λx=>x=b) w (a:=⟨b,j,none⟩) (by rfl) u
theorem But.cell {F:Nat->Prop} {w w':World} (h:But F w w') {p:Addr} (hp:p.block<w.heap.size) (hf: ¬F p.block):w'.cell? p=w.cell? p:=
 World.cell?_of_block (w:=w) (h.block p.block hp hf)
theorem But.frozen {F:Nat->Prop} {w w':World} (h:But F w w') {p:Addr} (hp:p.block<w.heap.size) (hf: ¬F p.block):w'.frozen? p=w.frozen? p:=
 World.frozen?_of_block (w:=w) (h.block p.block hp hf)
theorem But.toBelow {F:Nat->Prop} {B:Nat} {w w':World} (h:But F w w') (hB:B<=w.heap.size) (hF: ∀k,F k->B<=k):Below B w w':=
 ⟨h.os,h.tape,h.output,h.size,λk hk=>h.block k (by omega) (λhf=>by have:=hF k hf;omega)⟩
theorem ae {w:World} {b:Nat} {o:Obj} (h:w.heap[b]?=some o):b<w.heap.size:=by
 obtain h1|h1:=Nat.lt_or_ge b w.heap.size
 .exact h1
 .rw[Array.getElem?_eq_none h1]at h;cases h
section
variable {w w':World} {g:Nat} {t:TypeId} {fr:Nat×Nat} {l:List Value} {x0 x1 x2 x3 x4 x5 x6 x7 x8 x9 x10:Value}
theorem ce0 (h:w.heap[g]?=some (.cells (List.toArray (x0::l)) t fr)):w.cell? ⟨g,0,none⟩=some x0:=by rw[cell_of_row w g 0 _ _ _ h];rfl
theorem ce1 (h:w.heap[g]?=some (.cells (List.toArray (x0::x1::l)) t fr)):w.cell? ⟨g,1,none⟩=some x1:=by rw[cell_of_row w g 1 _ _ _ h];rfl
theorem ce2 (h:w.heap[g]?=some (.cells (List.toArray (x0::x1::x2::l)) t fr)):w.cell? ⟨g,2,none⟩=some x2:=by rw[cell_of_row w g 2 _ _ _ h];rfl
theorem ce3 (h:w.heap[g]?=some (.cells (List.toArray (x0::x1::x2::x3::l)) t fr)):w.cell? ⟨g,3,none⟩=some x3:=by rw[cell_of_row w g 3 _ _ _ h];rfl
theorem ce4 (h:w.heap[g]?=some (.cells (List.toArray (x0::x1::x2::x3::x4::l)) t fr)):w.cell? ⟨g,4,none⟩=some x4:=by rw[cell_of_row w g 4 _ _ _ h];rfl
theorem ce5 (h:w.heap[g]?=some (.cells (List.toArray (x0::x1::x2::x3::x4::x5::l)) t fr)):w.cell? ⟨g,5,none⟩=some x5:=by rw[cell_of_row w g 5 _ _ _ h];rfl
theorem ce6 (h:w.heap[g]?=some (.cells (List.toArray (x0::x1::x2::x3::x4::x5::x6::l)) t fr)):w.cell? ⟨g,6,none⟩=some x6:=by rw[cell_of_row w g 6 _ _ _ h];rfl
theorem ce7 (h:w.heap[g]?=some (.cells (List.toArray (x0::x1::x2::x3::x4::x5::x6::x7::l)) t fr)):w.cell? ⟨g,7,none⟩=some x7:=by rw[cell_of_row w g 7 _ _ _ h];rfl
theorem ce8 (h:w.heap[g]?=some (.cells (List.toArray (x0::x1::x2::x3::x4::x5::x6::x7::x8::l)) t fr)):w.cell? ⟨g,8,none⟩=some x8:=by rw[cell_of_row w g 8 _ _ _ h];rfl
theorem ce9 (h:w.heap[g]?=some (.cells (List.toArray (x0::x1::x2::x3::x4::x5::x6::x7::x8::x9::l)) t fr)):w.cell? ⟨g,9,none⟩=some x9:=by rw[cell_of_row w g 9 _ _ _ h];rfl
theorem Fy (h:w.heap[g]?=some (.cells (List.toArray (x0::x1::x2::x3::x4::x5::x6::x7::x8::x9::x10::l)) t fr)):w.cell? ⟨g,10,none⟩=some x10:=by rw[cell_of_row w g 10 _ _ _ h];rfl
theorem But.kp {o:Obj} (hB:But (λ_=>False) w w') (h:w.heap[g]?=some o):w'.heap[g]?=some o:=(hB.block g (ae h) (λh=>h)).trans h
theorem But.kc {p:Addr} {v:Option Value} (hB:But (λ_=>False) w w') (h:w.cell? p=v) (hl:p.block<w.heap.size):w'.cell? p=v:=(hB.cell hl (λh=>h)).trans h
theorem But.kz {p:Addr} {v:Bool} (hB:But (λ_=>False) w w') (h:w.frozen? p=v) (hl:p.block<w.heap.size):w'.frozen? p=v:=(hB.frozen hl (λh=>h)).trans h
theorem tf (x:Nat) (k:Int) (h:(x:Int)≠k):((x:Int)==k)=false:=by rw[beq_eq_false_iff_ne];exact h
end
theorem aw {w:World} {g:Nat} (h:w.heap.size=g) (o:Obj):(w.alloc o).heap[g]?=some o:=by subst h;exact heap_alloc_new _ _
theorem cJ (w:World) (a:Addr) (u:Value):(w.setCell a u).heap.size=w.heap.size:=by simp[World.setCell]
theorem ah {F:Nat->Prop} {w w':World} {base e size n:Nat} {v:Value} {xs:List Value} (h:w.ownsRow base e size v n xs) (hb:But F w w') (hf: ∀g,v.ownBlock=some g-> ¬F g):w'.ownsRow base e size v n xs:=by
 refine⟨h.1,?_⟩;obtain h2| ⟨g,cap,cur,hv,hg,hh,r⟩:=h.2
 .exact Or.inl h2
 .exact Or.inr ⟨g,cap,cur,hv,hg,(hb.block g (ae hh) (hf g (by rw[hv];rfl))).trans hh,r⟩
theorem aC {w:World} {base e size n:Nat} {v:Value} {xs:List Value} (h:w.ownsRow base e size v n xs): ∀g,v.ownBlock=some g->base<=g:=by
 intro g a;obtain⟨rfl,_⟩ | ⟨g',cap,cur,rfl,hb,_⟩:=h.2
 .cases a
 .simp[Value.ownBlock]at a;omega
theorem bB {w:World} {base e size n:Nat} {v:Value} {xs:List Value} (h:w.ownsRow base e size v n xs): ∀g,v.ownBlock=some g->g<w.heap.size:=by
 intro g a;obtain⟨rfl,_⟩ | ⟨g',cap,cur,rfl,hb,b,_⟩:=h.2
 .cases a
 .simp[Value.ownBlock]at a;subst a;exact ae b
theorem jd (w:World) (base e size:Nat):w.ownsRow base e size (.slice none 0 0) 0 []:=⟨by simp,Or.inl ⟨rfl,rfl⟩⟩
theorem aA {w:World} {base e size n:Nat} {v:Value} {xs:List Value} (h:w.ownsRow base e size v n xs): ∃ao cap,v= .slice ao n cap:=by
 obtain⟨rfl,rfl⟩ | ⟨g',cap,cur,rfl,_⟩:=h.2
 .exact⟨_,_,rfl⟩
 .exact⟨_,_,rfl⟩
theorem ki {w:World} {base e size n:Nat} {v:Value} {xs:List Value} (h:w.ownsRow base e size v n xs) {j:Nat} {u:Value} (hu:xs[j]?=some u):
  ∃g cap,v= .slice (some ⟨g,0,none⟩) n cap/\w.cell? ⟨g,j,none⟩=some u/\g<w.heap.size/\base<=g:=by
 obtain⟨rfl,rfl⟩ | ⟨g,cap,cur,rfl,hb,a,_⟩:=h.2
 .have:=h.1;simp at this;subst this;simp at hu
 .refine⟨g,cap,rfl,?_,ae a,hb⟩;have b:j<n*size:=by rw[<-h.1];exact(List.getElem?_eq_some_iff.1 hu).1
  rw[h.cellAt j b,hu]
theorem bD {w w':World} {row:Option Nat} (h:w.grownBy w' row):But (λk=>row=some k) w w':=
 ⟨h.os,h.tape,h.output,h.size,λk hk hf=>h.block k hk (λe=>hf e.symm)⟩
def ix (gs:List Sp.Sig):List Value:=gs.flatMap λg=> [.int .u8 g.arg.toNat,.int .u8 g.ret.toNat]
theorem me {α β:Type} (f:α->List β) (m:Nat) (hf: ∀x,(f x).length=m): ∀(l:List α) (j k:Nat) (x:α),l[j]?=some x->k<m->(l.flatMap f)[j*m+k]?=(f x)[k]?:=by
 intro l
 induction l with
 |nil=>intro j k x h _;simp at h
 |cons y l ih=>
  intro j k x h a
  cases j with
  |zero=>
   simp at h;subst h;rw[List.flatMap_cons,Nat.zero_mul,Nat.zero_add,List.getElem?_append_left (by rw[hf];exact a)]
  |succ j=>
   simp at h;rw[List.flatMap_cons,List.getElem?_append_right (by rw[hf,Nat.succ_mul];omega),hf];rw[show(j+1)*m+k-m=j*m+k from by rw[Nat.succ_mul];omega];exact ih j k x h a
theorem jz {gs:List Sp.Sig} {j k:Nat} {g:Sp.Sig} (h:gs[j]?=some g) (hk:k<2):(ix gs)[j*2+k]?=[Value.int .u8 g.arg.toNat,.int .u8 g.ret.toNat][k]?:=
 me (λg:Sp.Sig=> [Value.int .u8 g.arg.toNat,.int .u8 g.ret.toNat]) 2 (λ_=>rfl) gs j k g h hk
theorem aL {w:World} {base e size n cap:Nat} {ao:Option Addr} {xs:List Value} (h:w.ownsRow base e size (.slice ao n cap) n xs) (hn:0<n):
  ∃g,ao=some ⟨g,0,none⟩/\g<w.heap.size/\base<=g/\ ∀j u,xs[j]?=some u->w.cell? ⟨g,j,none⟩=some u:=by
 obtain⟨g,cap',c,hb,a⟩:=h.form hn;injection c with h1 h2 h3;subst h1;refine⟨g,rfl,a,hb,λj u hu=> ?_⟩;obtain⟨g',c',b,hc,_⟩:=ki h hu;injection b with h1;injection h1 with h1;injection h1 with h1;subst h1;exact hc
theorem ro (cs:List Sp.Sig) (c:Sp.Sig):ix (cs++ [c])=ix cs++ [.int .u8 c.arg.toNat,.int .u8 c.ret.toNat]:=by simp[ix]
theorem sO (l m:List UInt8):(⟨l.toArray⟩:ByteArray)++⟨m.toArray⟩=⟨(l++m).toArray⟩:=by
 apply ByteArray.ext
 simp
theorem D6 (c:UInt8) (w:World):(convert 112 9 (.slice (some ⟨w.heap.size,0,none⟩) 1 1)).run prog (w.alloc (.cells #[.int .u8 c.toNat] 5))= .ok (.string ⟨#[c]⟩) (w.alloc (.cells #[.int .u8 c.toNat] 5)):=by
 refine run_convert_bytes_back (w.alloc (.cells #[.int .u8 c.toNat] 5)) 112 9 5 ⟨w.heap.size,0,none⟩ 1 [c] (by kernel_rfl) (by kernel_rfl) (by kernel_rfl) ?_;intro j a
 match j,a with
 |0,_=>simp[Addr.add]
theorem dV (n:Int) (h1: -1000000000<=n) (h2:n<=1000000000):IntKind.i64.wrap n=n:=(IntWalk.i64_left n).trans (IntWalk.wrap64_in n ⟨by omega,by omega⟩)
theorem hid {p:Prop} (h:p):Hid p:=h
theorem cV {P:Program} {fn:Func} {R:Ending->World->Prop} {a:Act} {w:World} (v:Value) {t:Nat} (hf:fn.results=#[.tmp t]) (hd:a.defers=[]) (hc:a.tmps.getD t undef=v) (hR:R (.returned v) w):bodyPost P fn R .ret a w:=by
  refine bodyPost_ret (v:=v) ?_ hd hR;have b:a.tmps[t]?.getD undef=v:=by simpa using hc
  simp[results,hf,b,go_sem]
theorem wL {P:Program} {fn:Func} {R:Ending->World->Prop} {a:Act} {w:World} (hf:fn.results=#[]) (hd:a.defers=[]) (hR:R (.returned (.tuple #[])) w):bodyPost P fn R .ret a w:=by
  refine bodyPost_ret (v:= .tuple #[]) ?_ hd hR;simp[results,hf,go_sem]
end
section
open Go
section
variable {P:Program} {ops:Array Oper} {Q:Exit->Act->World->Prop} {S:World->Prop} {p:Nat}
def sP (P:Program) (ops:Array Oper) (Q:Exit->Act->World->Prop) (S:World->Prop) (p q k:Nat) (a:Act) (w:World):Prop:=
 pD P ops Q S p (ops.size-(k+1)) ((gW ops.size k).setIfInBounds q true) a w
theorem zc {k q:Nat} {o oq:Oper} {rest restq:List Oper} {a:Act} {w:World} (hod:ops.toList.drop k=o::rest) (hodq:ops.toList.drop q=oq::restq)
  (hr:Region.ready .any ops (gW ops.size k)=[k,q])
  (h: ∀K':Act->World->Prop,Go.Shut (∀a w,(k<p->S w)->kh P ops Q S p (k+1) a w->K' a w)->if Region.wanted o (yielded ops a.tmps)=true then Oper.wp P o a w K' Q else K' (a.put o.dst undef) w)
  (h2: ∀K':Act->World->Prop,Go.Shut (∀a w,(q<p->S w)->sP P ops Q S p q k a w->K' a w)->if Region.wanted oq (yielded ops a.tmps)=true then Oper.wp P oq a w K' Q else K' (a.put oq.dst undef) w):
  kh P ops Q S p k a w:=by
 have c:=fj hod;have b:=fj hodq;have d:k<ops.size:=(Array.getElem?_eq_some_iff.1 c).1;unfold kh;rw[show ops.size-k=(ops.size-(k+1))+1 from by omega];refine⟨λh=>(by rw[hr]at h;cases h),λi hi=> ?_⟩;rw[hr]at hi;simp only[List.mem_cons,List.not_mem_nil,or_false]at hi;obtain rfl|rfl:=hi
 .exact wpOp_step c (λK' hK=>h K' (λa w hS hW=>hK a w ⟨hS,by rw[iw];exact hW⟩))
 .exact wpOp_step b (λK' hK=>h2 K' (λa w hS hW=>hK a w ⟨hS,hW⟩))
theorem nw (n k q:Nat) (h:k≠q):((gW n k).setIfInBounds q true).setIfInBounds k true=(gW n (k+1)).setIfInBounds q true:=by
 rw[Array.setIfInBounds_comm _ _ (Ne.symm h),iw]
theorem zd {k q:Nat} {o:Oper} {rest:List Oper} {a:Act} {w:World} (hod:ops.toList.drop k=o::rest) (h: ∀K':Act->World->Prop,Go.Shut (∀a w,(k<p->S w)->sP P ops Q S p q (k+1) a w->K' a w)->if Region.wanted o (yielded ops a.tmps)=true then Oper.wp P o a w K' Q else K' (a.put o.dst undef) w) (hkq:(decide (k<q)&&decide (k+1<ops.size))=true:=by kernel_rfl) (hr:Region.ready .any ops ((gW ops.size k).setIfInBounds q true)=[k]:=by kernel_rfl):sP P ops Q S p q k a w:=by
 have b:=fj hod;simp only[Bool.and_eq_true,decide_eq_true_eq]at hkq;unfold sP;rw[show ops.size-(k+1)=(ops.size-(k+1+1))+1 from by omega];refine⟨λh=>(by rw[hr]at h;cases h),λi hi=> ?_⟩;rw[hr]at hi;simp at hi;subst hi;exact wpOp_step b (λK' hK=>h K' (λa w hS hW=>hK a w ⟨hS,by rw[nw _ _ _ (by omega)];exact hW⟩))
def yx (ops:Array Oper) (p q k:Nat):Bool:=
 decide (k<q)&&decide (k+1<ops.size)&&decide (k<p)&&Region.noSelect ops&&Region.free .any ops ((gW ops.size k).setIfInBounds q true) k&&(Region.ready .any ops ((gW ops.size k).setIfInBounds q true)).contains k&&
 (List.range ops.size).all λj=>decide (j<p)||match ops[j]? with
  |some oj=>oj.after.any λe=>Region.binds .any e&&e.on==k
  |none=>true
theorem ze {k q:Nat} {o:Oper} {rest:List Oper} {v:Value} {a:Act} {w:World} (hod:ops.toList.drop k=o::rest) (hS:S w) (hy: ∀w,S w->(execOp a.eval o).run P w= .ok (.value v) w) (h:sP P ops Q S p q (k+1) (a.put o.dst v) w) (hc:yx ops p q k=true:=by kernel_rfl) (hQ: ∀c a w,Q (.panic c) (a.put o.dst v) w->Q (.panic c) a w:=by exact λ_ _ _ h=>h) (hw:Region.wanted o (yielded ops a.tmps)=true:=by exact rfl):sP P ops Q S p q k a w:=by
 have n:=fj hod;unfold yx at hc;simp only[Bool.and_eq_true,decide_eq_true_eq,List.all_eq_true,List.mem_range]at hc;obtain⟨⟨⟨⟨⟨⟨r,s⟩,e⟩,f⟩,b⟩,g⟩,l⟩:=hc;unfold sP at*;rw[show ops.size-(k+1)=(ops.size-(k+1+1))+1 from by omega];refine mO n e (Region.noSelect_spec f) ?_ hQ _ _ a w (Region.free_spec n b) (by simpa using g) (Or.inl ⟨hw,hy⟩) hS (by rw[nw _ _ _ (by omega)];exact h);intro j oj m t;have d:j<ops.size:=(Array.getElem?_eq_some_iff.1 m).1;have:=l j d;rw[m]at this;simp only[Bool.or_eq_true,decide_eq_true_eq,Array.any_eq_true,Bool.and_eq_true,beq_iff_eq]at this;obtain h1| ⟨i,hi,h1,h2⟩:=this
 .omega
 .exact⟨oj.after[i],Array.getElem_mem hi,h1,h2⟩
theorem zf {q:Nat} {a:Act} {w:World} (h:kh P ops Q S p (q+1) a w):sP P ops Q S p q q a w:=by
 unfold sP;rw[iw];exact h
def has (n:Nat) (L:List Nat):Array Bool:=((List.range n).map λi=>L.contains i).toArray
theorem kE (n k:Nat) (L:List Nat):(has n L).setIfInBounds k true=has n (k::L):=by
 unfold has
 apply Array.ext
 .simp
 .intro i a b
  by_cases h:k=i
  .subst h;simp
  .rw[Array.getElem_setIfInBounds_ne (by simpa using a) h];have h': ¬i=k:=λe=>h e.symm
   simp[h']
theorem C0 (n:Nat):Array.replicate n false=has n []:=by
 unfold has
 apply Array.ext
 .simp
 .intro i a b;simp
def sQ (ops:Array Oper) (p:Nat) (L:List Nat) (k:Nat):Bool:=
 decide (k<p)&&Region.noSelect ops&&Region.free .any ops (has ops.size L) k&&(Region.ready .any ops (has ops.size L)).contains k&&
 (List.range ops.size).all λj=>decide (j<p)||match ops[j]? with
  |some oj=>oj.after.any λe=>Region.binds .any e&&e.on==k
  |none=>true
def wpP (P:Program) (ops:Array Oper) (Q:Exit->Act->World->Prop) (S:World->Prop) (p:Nat) (L:List Nat) (a:Act) (w:World):Prop:=
 pD P ops Q S p (ops.size-L.length) (has ops.size L) a w
theorem dr {id:Nat} {a:Act} {w:World} (S:World->Prop) (p:Nat) (h:wpP P ops Q S p [] a w.drew) (hm:P.follows .mixedOrders=true:=by kernel_rfl):(Code.region id ops true).wp P Q a w:=by
 refine wp_region_any hm (lC (S:=S) (p:=p) _ _ _ _ ?_);rw[C0];exact h
theorem je {k:Nat} {L:List Nat} {o:Oper} {v:Value} {a:Act} {w:World} (ho:ops[k]?=some o) (hS:S w) (hy: ∀w,S w->(execOp a.eval o).run P w= .ok (.value v) w) (h:wpP P ops Q S p (k::L) (a.put o.dst v) w) (hl:L.length<ops.size:=by decide) (hc:sQ ops p L k=true:=by kernel_rfl) (hQ: ∀c a w,Q (.panic c) (a.put o.dst v) w->Q (.panic c) a w:=by exact λ_ _ _ h=>h) (hw:Region.wanted o (yielded ops a.tmps)=true:=by exact rfl):wpP P ops Q S p L a w:=by
 unfold sQ at hc;simp only[Bool.and_eq_true,decide_eq_true_eq,List.all_eq_true,List.mem_range]at hc;obtain⟨⟨⟨⟨e,f⟩,b⟩,g⟩,l⟩:=hc;unfold wpP at*;rw[show ops.size-L.length=(ops.size-(k::L).length)+1 from by simp;omega];refine mO ho e (Region.noSelect_spec f) ?_ hQ _ _ a w (Region.free_spec ho b) (by simpa using g) (Or.inl ⟨hw,hy⟩) hS (by rw[kE];exact h);intro j oj m n;have d:j<ops.size:=(Array.getElem?_eq_some_iff.1 m).1;have:=l j d;rw[m]at this;simp only[Bool.or_eq_true,decide_eq_true_eq,Array.any_eq_true,Bool.and_eq_true,beq_iff_eq]at this;obtain h1| ⟨i,hi,h1,h2⟩:=this
 .omega
 .exact⟨oj.after[i],Array.getElem_mem hi,h1,h2⟩
theorem aG {k:Nat} {L:List Nat} {o:Oper} {a:Act} {w:World} (ho:ops[k]?=some o) (h: ∀K':Act->World->Prop,Go.Shut (∀a w,(k<p->S w)->wpP P ops Q S p (k::L) a w->K' a w)->if Region.wanted o (yielded ops a.tmps)=true then Oper.wp P o a w K' Q else K' (a.put o.dst undef) w) (hl:L.length<ops.size:=by decide) (hr:Region.ready .any ops (has ops.size L)=[k]:=by kernel_rfl):wpP P ops Q S p L a w:=by
 unfold wpP;rw[show ops.size-L.length=(ops.size-(k::L).length)+1 from by simp;omega];refine⟨λh=>(by rw[hr]at h;cases h),λi hi=> ?_⟩;rw[hr]at hi;simp at hi;subst hi;exact wpOp_step ho (λK' hK=>h K' (λa w hS hW=>hK a w ⟨hS,by rw[kE];exact hW⟩))
theorem kF {k1 k2:Nat} {L:List Nat} {o1 o2:Oper} {a:Act} {w:World} (ho1:ops[k1]?=some o1) (ho2:ops[k2]?=some o2) (hl:L.length<ops.size) (hr:Region.ready .any ops (has ops.size L)=[k1,k2])
  (h1: ∀K':Act->World->Prop,Go.Shut (∀a w,(k1<p->S w)->wpP P ops Q S p (k1::L) a w->K' a w)->if Region.wanted o1 (yielded ops a.tmps)=true then Oper.wp P o1 a w K' Q else K' (a.put o1.dst undef) w)
  (h2: ∀K':Act->World->Prop,Go.Shut (∀a w,(k2<p->S w)->wpP P ops Q S p (k2::L) a w->K' a w)->if Region.wanted o2 (yielded ops a.tmps)=true then Oper.wp P o2 a w K' Q else K' (a.put o2.dst undef) w):wpP P ops Q S p L a w:=by
 unfold wpP;rw[show ops.size-L.length=(ops.size-(L.length+1))+1 from by omega];refine⟨λh=>(by rw[hr]at h;cases h),λi hi=> ?_⟩;rw[hr]at hi;simp only[List.mem_cons,List.not_mem_nil,or_false]at hi;obtain rfl|rfl:=hi
 .exact wpOp_step ho1 (λK' hK=>h1 K' (λa w hS hW=>hK a w ⟨hS,by rw[kE];exact hW⟩))
 .exact wpOp_step ho2 (λK' hK=>h2 K' (λa w hS hW=>hK a w ⟨hS,by rw[kE];exact hW⟩))
theorem zg {k1 k2 k3:Nat} {L:List Nat} {o1 o2 o3:Oper} {a:Act} {w:World} (ho1:ops[k1]?=some o1) (ho2:ops[k2]?=some o2) (ho3:ops[k3]?=some o3) (hl:L.length<ops.size) (hr:Region.ready .any ops (has ops.size L)=[k1,k2,k3])
  (h1: ∀K':Act->World->Prop,Go.Shut (∀a w,(k1<p->S w)->wpP P ops Q S p (k1::L) a w->K' a w)->if Region.wanted o1 (yielded ops a.tmps)=true then Oper.wp P o1 a w K' Q else K' (a.put o1.dst undef) w)
  (h2: ∀K':Act->World->Prop,Go.Shut (∀a w,(k2<p->S w)->wpP P ops Q S p (k2::L) a w->K' a w)->if Region.wanted o2 (yielded ops a.tmps)=true then Oper.wp P o2 a w K' Q else K' (a.put o2.dst undef) w)
  (h3: ∀K':Act->World->Prop,Go.Shut (∀a w,(k3<p->S w)->wpP P ops Q S p (k3::L) a w->K' a w)->if Region.wanted o3 (yielded ops a.tmps)=true then Oper.wp P o3 a w K' Q else K' (a.put o3.dst undef) w):wpP P ops Q S p L a w:=by
 unfold wpP;rw[show ops.size-L.length=(ops.size-(L.length+1))+1 from by omega];refine⟨λh=>(by rw[hr]at h;cases h),λi hi=> ?_⟩;rw[hr]at hi;simp only[List.mem_cons,List.not_mem_nil,or_false]at hi;obtain rfl|rfl|rfl:=hi
 .exact wpOp_step ho1 (λK' hK=>h1 K' (λa w hS hW=>hK a w ⟨hS,by rw[kE];exact hW⟩))
 .exact wpOp_step ho2 (λK' hK=>h2 K' (λa w hS hW=>hK a w ⟨hS,by rw[kE];exact hW⟩))
 .exact wpOp_step ho3 (λK' hK=>h3 K' (λa w hS hW=>hK a w ⟨hS,by rw[kE];exact hW⟩))
def Em (P:Program) (ops:Array Oper) (Q:Exit->Act->World->Prop) (S:World->Prop) (p:Nat) (_ L:List Nat) (a:Act) (w:World):Prop:=wpP P ops Q S p L a w
theorem cW {L:List Nat} {a:Act} {w:World} (ks:List Nat) (h:Em P ops Q S p ks L a w):wpP P ops Q S p L a w:=h
theorem dt {k:Nat} {ks L:List Nat} {o:Oper} {v:Value} {a:Act} {w:World} (ho:ops[k]?=some o) (hS:S w) (hy: ∀w,S w->(execOp a.eval o).run P w= .ok (.value v) w) (h:Em P ops Q S p ks (k::L) (a.put o.dst v) w) (hl:L.length<ops.size:=by decide) (hc:sQ ops p L k=true:=by kernel_rfl)
  (hQ: ∀c a w,Q (.panic c) (a.put o.dst v) w->Q (.panic c) a w:=by exact λ_ _ _ h=>h) (hw:Region.wanted o (yielded ops a.tmps)=true:=by exact rfl):Em P ops Q S p (k::ks) L a w:=je ho hS hy h hl hc hQ hw
theorem dg {L:List Nat} {a:Act} {w:World} (hl:L.length=ops.size) (h:Q .normal a w) (hr:Region.ready .any ops (has ops.size L)=[]:=by kernel_rfl):wpP P ops Q S p L a w:=by
 unfold wpP;rw[hl,Nat.sub_self];exact⟨hr,h⟩
theorem ui {i:Nat} {oi:Oper} {v:Value} (T:Nat->Prop) (hi:ops[i]?=some oi) (hip:i<p) (hsel: ∀(j:Nat) (o:Oper) cs b,ops[j]?=some o->o.op≠ .select cs b)
  (hT1: ∀j oj,ops[j]?=some oj->p<=j->T j) (hT2: ∀j oj,ops[j]?=some oj->T j-> ∃e∈oj.after,Region.binds .any e=true/\(e.on=i\/T e.on))
  (hQ: ∀c a w,Q (.panic c) (a.put oi.dst v) w->Q (.panic c) a w):
  ∀(fuel:Nat) (listed:Array Bool) (a:Act) (w:World),(∀j,T j->listed.getD j false=false)->
   (∀j oj,ops[j]?=some oj->j≠i->listed.getD j true=false->(∀e∈oj.after,Region.binds .any e=true->e.on≠i)->oi.apart ops oj=true)->
   i∈Region.ready .any ops listed->YieldsIf P ops S oi v a->S w->
   pD P ops Q S p fuel (listed.setIfInBounds i true) (a.put oi.dst v) w->pD P ops Q S p (fuel+1) listed a w:=by
 intro fuel
 induction fuel with
 |zero=>
  intro listed a w _ _ s C t H;refine⟨λh=>(by rw[h]at s;cases s),λj hj=> ?_⟩
  by_cases hji:j=i
  .subst hji;exact C.wpOp hi t ⟨λ_=>t,H⟩
  .have:=ready_mono hj hji;rw[H.1]at this
   cases this
 |succ fuel ih=>
  intro listed a w x d s C t H;refine⟨λh=>(by rw[h]at s;cases s),λj hj=> ?_⟩
  by_cases hji:j=i
  .subst hji;exact C.wpOp hi t ⟨λ_=>t,H⟩
  .have g:=H.2 j (ready_mono hj hji);obtain⟨q,oj,f,n⟩:=mem_ready.1 hj
   have r: ∀e∈oj.after,Region.binds .any e=true->e.on≠i:=λe B hb heq=>by
    have g:=n e B hb;have F:=(mem_ready.1 s).1;rw[heq]at g;obtain h'|h':=Nat.lt_or_ge i listed.size
    .simp[h']at F g;rw[F]at g;cases g
    .simp[Array.getElem?_eq_none h']at g
   have z: ¬T j:=λhT=>by
    obtain⟨e,B,hb,A⟩:=hT2 j oj f hT;obtain A|A:=A
    .exact r e B hb A
    .have g:=n e B hb;have D:=x e.on A;rw[D]at g
     cases g
   have E:j<p:=by
    obtain h|h:=Nat.lt_or_ge j p
    .exact h
    .exact absurd (hT1 j oj f h) z
   have D:=wpOp_putIf f (d j oj f hji q r) (λcs b=>hsel i oi cs b hi) (λcs b=>hsel j oj cs b f) hQ C g
   have l: ∀k ok,ops[k]?=some ok->k≠i->(listed.setIfInBounds j true).getD k true=false->
     (∀e∈ok.after,Region.binds .any e=true->e.on≠i)->oi.apart ops ok=true:=λk ok hk hki hun hno=>by
    refine d k ok hk hki ?_ hno
    by_cases m:j=k
    .subst m;exact q
    .rw[getD_set_ne true m]at hun;exact hun
   have y: ∀k,T k->(listed.setIfInBounds j true).getD k false=false:=λk hk=>by
    have m:j≠k:=λe=>z (e▸hk)
    have:=x k hk;simpa[Array.getElem?_setIfInBounds_ne m]using this
   refine wpOp_mono (λa' w' h3=>⟨h3.2.1,ih (listed.setIfInBounds j true) a' w' y l (ready_mono s (Ne.symm hji)) h3.1 (h3.2.1 E) ?_⟩) D;rw[Array.setIfInBounds_comm _ _ hji];exact h3.2.2
def yy (ops:Array Oper) (k:Nat):List Nat:=(List.range ops.size).foldl (λL j=>match ops[j]? with
 |some oj=>if oj.after.any (λe=>Region.binds .any e&&(e.on==k||L.contains e.on))then j::L else L
 |none=>L) []
def yz (ops:Array Oper) (p k:Nat):Bool:=
 decide (k<p)&&Region.noSelect ops&&Region.free .any ops (gW ops.size k) k&&(Region.ready .any ops (gW ops.size k)).contains k&&
 ((List.range ops.size).all λj=>decide (j<p)||(yy ops k).contains j)&&
 (yy ops k).all λj=>decide (k<=j)&&match ops[j]? with
  |some oj=>oj.after.any λe=>Region.binds .any e&&(e.on==k||(yy ops k).contains e.on)
  |none=>false
theorem eT {k:Nat} {o:Oper} {rest:List Oper} {v:Value} {a:Act} {w:World} (hod:ops.toList.drop k=o::rest) (hS:S w) (hy: ∀w,S w->(execOp a.eval o).run P w= .ok (.value v) w) (h:kh P ops Q S p (k+1) (a.put o.dst v) w) (hc:yz ops p k=true:=by kernel_rfl) (hQ: ∀c a w,Q (.panic c) (a.put o.dst v) w->Q (.panic c) a w:=by exact λ_ _ _ h=>h) (hw:Region.wanted o (yielded ops a.tmps)=true:=by exact rfl):kh P ops Q S p k a w:=by
 have n:=fj hod;unfold yz at hc;generalize yy ops k=L at hc;simp only[Bool.and_eq_true,decide_eq_true_eq,List.all_eq_true,List.mem_range]at hc;obtain⟨⟨⟨⟨⟨l,m⟩,f⟩,q⟩,r⟩,s⟩:=hc;have y:k<ops.size:=(Array.getElem?_eq_some_iff.1 n).1;unfold kh at*;rw[show ops.size-k=(ops.size-(k+1))+1 from by omega];refine ui (λj=>j∈L) n l (Region.noSelect_spec m) ?_ ?_ hQ _ _ a w ?_ (Region.free_spec n f) (by simpa using q) (Or.inl ⟨hw,hy⟩) hS (by rw[iw];exact h)
 .intro j oj b x;have g:j<ops.size:=(Array.getElem?_eq_some_iff.1 b).1;have:=r j g;simp only[Bool.or_eq_true,decide_eq_true_eq]at this;obtain d|d:=this
  .omega
  .simpa using d
 .intro j oj b e;have:=(s j e).2;rw[b]at this;simp only[Array.any_eq_true,Bool.and_eq_true,Bool.or_eq_true,beq_iff_eq]at this;obtain⟨i,hi,d,t⟩:=this;exact⟨oj.after[i],Array.getElem_mem hi,d,t.imp_right (λh=>by simpa using h)⟩
 .intro j e;have:=(s j e).1;obtain b|b:=Nat.lt_or_ge j ops.size
  .simp[gW,b];omega
  .simp[gW,b]
theorem uj {i:Nat} {oi:Oper} {v:Value} (hi:ops[i]?=some oi) (hpi:p<=i) (hsel: ∀(j:Nat) (o:Oper) cs b,ops[j]?=some o->o.op≠ .select cs b)
  (hQ: ∀c a w,Q (.panic c) (a.put oi.dst v) w->Q (.panic c) a w):
  ∀(fuel:Nat) (listed:Array Bool) (a:Act) (w:World),
   (∀j oj,ops[j]?=some oj->j≠i->listed.getD j true=false->(∀e∈oj.after,Region.binds .any e=true->e.on≠i)->oi.apart ops oj=true)->
   i∈Region.ready .any ops listed->YieldsIf P ops (λ_=>True) oi v a->
   pD P ops Q S p fuel (listed.setIfInBounds i true) (a.put oi.dst v) w->pD P ops Q S p (fuel+1) listed a w:=by
 intro fuel
 induction fuel with
 |zero=>
  intro listed a w _ n s H;refine⟨λh=>(by rw[h]at n;cases n),λj hj=> ?_⟩
  by_cases hji:j=i
  .subst hji;exact s.wpOp hi trivial ⟨λh=>by omega,H⟩
  .have:=ready_mono hj hji;rw[H.1]at this
   cases this
 |succ fuel ih=>
  intro listed a w d n s H;refine⟨λh=>(by rw[h]at n;cases n),λj hj=> ?_⟩
  by_cases hji:j=i
  .subst hji;exact s.wpOp hi trivial ⟨λh=>by omega,H⟩
  .have l:=H.2 j (ready_mono hj hji);obtain⟨g,oj,m,q⟩:=mem_ready.1 hj
   have r: ∀e∈oj.after,Region.binds .any e=true->e.on≠i:=λe he hb heq=>by
    have l:=q e he hb;have t:=(mem_ready.1 n).1;rw[heq]at l;obtain h'|h':=Nat.lt_or_ge i listed.size
    .simp[h']at t l;rw[t]at l;cases l
    .simp[Array.getElem?_eq_none h']at l
   have x:=wpOp_putIf m (d j oj m hji g r) (λcs b=>hsel i oi cs b hi) (λcs b=>hsel j oj cs b m) hQ s l
   have f: ∀k ok,ops[k]?=some ok->k≠i->(listed.setIfInBounds j true).getD k true=false->
     (∀e∈ok.after,Region.binds .any e=true->e.on≠i)->oi.apart ops ok=true:=λk ok hk hki hun hno=>by
    refine d k ok hk hki ?_ hno
    by_cases hjk:j=k
    .subst hjk;exact g
    .rw[getD_set_ne true hjk]at hun;exact hun
   refine wpOp_mono (λa' w' h3=>⟨h3.2.1,ih (listed.setIfInBounds j true) a' w' f (ready_mono n (Ne.symm hji)) h3.1 ?_⟩) x;rw[Array.setIfInBounds_comm _ _ hji];exact h3.2.2
def yA (ops:Array Oper) (p k:Nat):Bool:=
 decide (p<=k)&&decide (k<ops.size)&&Region.noSelect ops&&Region.free .any ops (gW ops.size k) k&&(Region.ready .any ops (gW ops.size k)).contains k
theorem jf {k:Nat} {o:Oper} {rest:List Oper} {v:Value} {a:Act} {w:World} (hod:ops.toList.drop k=o::rest) (hy: ∀w,(execOp a.eval o).run P w= .ok (.value v) w) (h:kh P ops Q S p (k+1) (a.put o.dst v) w) (hc:yA ops p k=true:=by kernel_rfl) (hQ: ∀c a w,Q (.panic c) (a.put o.dst v) w->Q (.panic c) a w:=by exact λ_ _ _ h=>h) (hw:Region.wanted o (yielded ops a.tmps)=true:=by exact rfl):kh P ops Q S p k a w:=by
 have g:=fj hod;unfold yA at hc;simp only[Bool.and_eq_true,decide_eq_true_eq]at hc;obtain⟨⟨⟨⟨d,i⟩,e⟩,b⟩,f⟩:=hc;unfold kh at*;rw[show ops.size-k=(ops.size-(k+1))+1 from by omega];exact uj g d (Region.noSelect_spec e) hQ _ _ a w (Region.free_spec g b) (by simpa using f) (Or.inl ⟨hw,λw _=>hy w⟩) (by rw[iw];exact h)
end
end
section
open Go Go.RowKit
abbrev ag:= @But.alloc
abbrev aq:= @But.setB
abbrev aD:= @But.drew
abbrev bp:= @But.drewN
abbrev aM:= @List.getElem?_eq_getElem
theorem bn {α:Type _} {l:List α} {i:Nat} {a:α} (h:l[i]?=some a): ∃h:i<l.length,l[i]=a:=List.getElem?_eq_some_iff.1 h
abbrev a9:= @List.mem_of_getElem?
abbrev aV:= @List.length_append
abbrev bZ:= @List.length_map
abbrev bM:= @List.getD_eq_getElem?_getD
abbrev cg:= @List.getElem?_map
abbrev cS:= @List.getElem_mem
abbrev aP:= @Nat.lt_of_lt_of_le
abbrev bj:= @heap_alloc_new
abbrev bS:= @heap_setCell_same
abbrev bU:= @cell_of_row
abbrev cw:= @frozen_of_row
abbrev iO:= @World.news_of_block
abbrev fh:= @beq_eq_false_iff_ne
abbrev dh:= @World.ownsRow.mono
abbrev cU:= @bodyPost_ret
abbrev eQ:= @List.getElem?_append_left
abbrev dk:= @decide_eq_true_eq
abbrev dl:= @Bool.and_eq_true
abbrev dx:= @Bool.false_eq_true
abbrev eF:= @Go.wp_at_zero
abbrev eG:= @Go.wp_at_succ
abbrev kj:= @List.take_succ_eq_append_getElem
abbrev fM:= @List.length_singleton
abbrev bG:= @Nat.le_refl
abbrev dS:= @beq_iff_eq
abbrev gG:= @List.getElem?_append_right
theorem gH {α:Type _} {a:α} {l m:List α} (h:a∈l++m):a∈l\/a∈m:=List.mem_append.1 h
abbrev g8:= @List.take_of_length_le
abbrev fy:= @List.prefix_refl
abbrev ju:= @Nat.lt_or_ge
abbrev ie:= @List.length_cons
abbrev eH:= @Int.le_refl
abbrev ny:= @Int.toNat_natCast
abbrev cq:= @But.refl
abbrev mP:= @List.append_assoc
abbrev lu:= @List.flatMap_cons
theorem ck {a b:UInt8} (h:a.toNat=b.toNat):a=b:=UInt8.toNat_inj.1 h
end
section
open Go
abbrev S_ : Value := .slice none 0 0
abbrev B_ := But (λ_ => False)
abbrev L_ := List UInt8
end
end Go.Proofs.YtpfkkmacakjmbaaGreatDoor
