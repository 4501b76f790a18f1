import Derived.Test.YtpfkkmacakjmbaaGreatDoorP00
import Derived.Lib.ItoaNum
import Derived.IntWalk
import Derived.Test.YtpfkkmacakjmbaaGreatDoorCards
import Derived.Test.YtpfkkmacakjmbaaGreatDoorTie
import Derived.ProofKit
import Derived.OpenShut
import Derived.Carry
import Derived.Deep.Slices
import Derived.Deep.DeepHandedRow
import Derived.Lib.LaidTab
set_option maxRecDepth 100000
set_option maxHeartbeats 6400000
set_option linter.all false
namespace Go.Proofs.YtpfkkmacakjmbaaGreatDoor
open Proofs.Tryz
section
open Go Go.RowKit Sp
attribute [local go_sem ↓] dG dH
theorem jZ (e:Int) (w:World):
  Calls prog 21 #[.int .i64 e] w λen w'=>en= .returned (.int .i64 e)/\w'=w:=by
 go_in
 go_wp2_with fail
 all_goals go_ret
 all_goals exact⟨rfl,rfl⟩
structure E1 (w:World) (b o:Nat) (kd:Int) (s:ByteArray):Prop where
 rest: ∃(x y z:Int) (t u:ByteArray),w.cell? ⟨b,o,none⟩=some (.int .i64 kd)/\w.cell? ⟨b,o+1,none⟩=some (.int .i64 x)/\w.cell? ⟨b,o+2,none⟩=some (.int .i64 y)/\w.cell? ⟨b,o+3,none⟩=some (.int .i64 z)/\
  w.cell? ⟨b,o+4,none⟩=some (.string s)/\w.cell? ⟨b,o+5,none⟩=some (.string t)/\w.cell? ⟨b,o+6,none⟩=some (.string u)
 short:s.size<=maxLen
def CX (w:World) (ao:Option Addr) (n:Nat):Prop:=
 n<=maxLen/\(0<n-> ∃b o,ao=some ⟨b,o,none⟩/\b<w.heap.size/\ ∀k,k<n-> ∃kd s,E1 w b (o+k*7) kd s)
end
namespace Sp
def bF (cs:List Cls):Nat->Int->Int->Bool
 |0,_,_=>false
 |f+1,x,y=>if x<0 then false else if x=y then true else bF cs f (cX cs x) y
def isC (c:UInt8):Bool:=decide (65<=c.toNat)&&decide (c.toNat<=68)
def cy (cs:List Cls) (a b:UInt8):Bool:=
 if a.toNat=b.toNat\/b.toNat=45 then true else
 if isC b=false then false else
 if a.toNat=122 then true else
 if isC a=false then false else bF cs 5 ((a.toNat:Int)-65) ((b.toNat:Int)-65)
def lQ (cs:List Cls) (y:Int):Nat->Int->UInt8
 |0,_=>45
 |f+1,p=>if p<0 then 45 else if bF cs 5 y p=true then UInt8.ofNat (65+p.toNat)else lQ cs y f (cX cs p)
def jF (cs:List Cls) (a b:UInt8):UInt8:=
 if cy cs a b=true then b else
 if cy cs b a=true then a else
 if isC a=false\/isC b=false then 45 else
 lQ cs ((b.toNat:Int)-65) 5 (cX cs ((a.toNat:Int)-65))
def okT (n:Nat) (c:UInt8):Bool:=cZ n c||decide (c.toNat=122)||decide (c.toNat=45)
theorem eF {n:Nat} {c:UInt8}:okT n c=true↔c.toNat=105\/(65<=c.toNat/\c.toNat<65+n)\/c.toNat=122\/c.toNat=45:=by
 simp[okT,cZ,aN,or_assoc]
theorem cI {c:UInt8}:isC c=true↔65<=c.toNat/\c.toNat<=68:=by simp[isC]
def isR (c:UInt8):Bool:=decide (c.toNat=122)||isC c
def eG (cs:List Cls) (stack want:L_):Bool:=
 decide (want.length<=stack.length)&&(List.range want.length).all λi=>cy cs (stack.getD (stack.length-want.length+i) 0) (want.getD i 0)
def cO (cs:List Cls) (a k:Nat):UInt8:=((cs[a]?.map (·.fields)).getD []).getD k 0
def dI (a:Nat):UInt8:=UInt8.ofNat (65+a)
def gY (gs:List Sig) (k:Nat):UInt8:=(gs[k]?.map (·.arg)).getD 0
def gZ (gs:List Sig) (k:Nat):UInt8:=(gs[k]?.map (·.ret)).getD 0
def arith (c:Nat):Bool:=[43,45,42,47,60,61].contains c
def bQ (cs:List Cls) (gs:List Sig) (b:Bod) (x:Ins):L_:=
 if x.op.toNat=119\/x.op.toNat=102 then [105]else
 if arith x.op.toNat=true then [105,105]else
 if x.op.toNat=103 then [dI x.a]else
 if x.op.toNat=112 then [dI x.a,cO cs x.a x.b]else
 if x.op.toNat=99 then [dI x.a,gY gs x.b]else
 if x.op.toNat=116 then(if b.cls<0 then [105]else [gZ gs b.meth.toNat])else []
def bZ (cs:List Cls) (gs:List Sig) (x:Ins):L_:=
 if x.op.toNat=107\/x.op.toNat=114\/arith x.op.toNat=true\/x.op.toNat=101 then [105]else
 if x.op.toNat=122 then [122]else
 if x.op.toNat=110\/x.op.toNat=120 then [dI x.a]else
 if x.op.toNat=103 then [cO cs x.a x.b]else
 if x.op.toNat=99 then [gZ gs x.b]else []
def fg (c:Nat) (stack:L_):Option Nat:=
 if c=101 then
  if stack.length<2\/isR (stack.getD (stack.length-1) 0)=false\/isR (stack.getD (stack.length-2) 0)=false then none else some 2
 else if stack.length<1\/(c=120/\isR (stack.getD (stack.length-1) 0)=false)then none else some 1
def eN (cs:List Cls) (gs:List Sig) (b:Bod) (x:Ins) (stack locals:L_):Option (L_×L_):=
 if x.op.toNat=115\/x.op.toNat=100\/x.op.toNat=101\/x.op.toNat=120 then
  match fg x.op.toNat stack with
  |none=>none
  |some k=>some (stack.take (stack.length-k)++bZ cs gs x,if x.op.toNat=115 then locals.set x.b (stack.getD (stack.length-1) 0)else locals)
 else if x.op.toNat=108 then
  if(locals.getD x.b 0).toNat=45 then none else some (stack++ [locals.getD x.b 0],locals)
 else if eG cs stack (bQ cs gs b x)=true then some (stack.take (stack.length-(bQ cs gs b x).length)++bZ cs gs x,locals)
 else none
def dU (cs:List Cls) (a b:L_):L_:=List.zipWith (jF cs) a b
theorem qQ {cs:List Cls} {a b:L_} (h:a.length=b.length):(dU cs a b).length=a.length:=by
 simp[dU,h]
def eC (x:Ins) (i:Nat):Int×Int:=
 if x.op.toNat=116 then(-1,-1)else
 if x.op.toNat=106 then((x.b:Int),-1)else
 if x.op.toNat=102 then((i:Int)+1,(x.b:Int))else((i:Int)+1,-1)
def io (cs:List Cls) (a:Option (L_×L_)) (sb lb:L_):Option (L_×L_):=match a with
 |none=>some (sb,lb)
 |some (sa,la)=>if sa.length=sb.length then some (dU cs sa sb,dU cs la lb)else none
def okS (n nl:Nat) (s l:L_):Prop:=(∀c∈s,okT n c=true)/\(∀c∈l,okT n c=true)/\l.length=nl/\s.length<=100
def cF (cs:List Cls) (T:List (Option (L_×L_))×Bool×Bool) (j:Int) (sb lb:L_):List (Option (L_×L_))×Bool×Bool:=
 if T.2.2=true\/j<0 then T else
 if(T.1.length:Int)<=j then(T.1,T.2.1,true)else
 match io cs (T.1.getD j.toNat none) sb lb with
 |none=>(T.1,T.2.1,true)
 |some m=>if some m=T.1.getD j.toNat none then T else(T.1.set j.toNat (some m),true,false)
theorem je {cs:List Cls} (hw:WfC cs) {x:Int} (hx:x<cs.length) (h0:0<=x): -1<=cX cs x/\cX cs x<cs.length:=by
 unfold cX;obtain⟨n,rfl⟩:=Int.eq_ofNat_of_zero_le h0;have hn:n<cs.length:=by omega
 rw[Int.toNat_natCast,aH hn];have:=hw n _ (aH hn);simp;omega
theorem s8 {cs:List Cls} {y:Int} (hn:cs.length<=4) (hw:WfC cs): ∀{f:Nat} {p:Int},-1<=p->p<cs.length->okT cs.length (lQ cs y f p)=true:=by
 intro f
 induction f with
 |zero=>intro p _ _;simp[lQ,okT]
 |succ f ih=>
  intro p h1 h2;unfold lQ
  split
  .simp[okT]
  .split
   .rw[eF]
    right;left
    rw[UInt8.toNat_ofNat'];omega
   .have:=je hw h2 (by omega);exact ih this.1 this.2
theorem te {cs:List Cls} {a b:UInt8} (hn:cs.length<=4) (hw:WfC cs) (ha:okT cs.length a=true) (hb:okT cs.length b=true):okT cs.length (jF cs a b)=true:=by
 unfold jF
 split
 .exact hb
 .split
  .exact ha
  .split
   .simp[okT]
   .rename_i h
    have a1:=eF.1 ha
    have a0:isC a=true:=by cases h':isC a with
     |true=>rfl
     |false=>exact absurd (Or.inl h') h
    have:=cI.1 a0;have hr:=je hw (x:=(a.toNat:Int)-65) (by omega) (by omega);exact s8 hn hw hr.1 hr.2
theorem xT (cs:List Cls) (gs:List Sig) (x:Ins):(bZ cs gs x).length<=1:=by
 unfold bZ
 repeat' split
 all_goals simp
def dV:List Nat:=[48,49,50,51,52,53,54,55,56,57,114,119,108,115,43,45,42,47,60,61,101,110,122,103,112,99,120,44,105,111]
def cd (c:UInt8):Bool:=decide (48<=c.toNat)&&decide (c.toNat<=57)
def aA (c:UInt8):Nat:=
 if c.toNat=105 then 3
 else if [43,45,42,47,60,61,101,112,99,44,111].contains c.toNat=true then 2
 else if [115,103,120,119].contains c.toNat=true then 1
 else 0
def nE (s:ByteArray) (cs:List Cls) (ns nl i:Nat):Except Nat (Ins×Nat):=
 if dV.contains (pk s i).toNat=true then
  match bA s cs ns nl (pk s i).toNat (i+1)with
  | .ok (a,b,j)=> .ok (⟨pk s i,a,if cd (pk s i)=true then(pk s i).toNat-48 else b,i⟩,j)
  | .error j=> .error j
 else .error i
def eO (s:ByteArray) (cs:List Cls) (ns nl:Nat):Nat->List Ins->Nat->Nat->Except Nat (List Ins×Nat)
 |_,t,0,i=> .ok (t,i)
 |0,_,_+1,i=> .error i
 |k+1,t,m+1,i=>
  match nE s cs ns nl i with
  | .error j=> .error j
  | .ok (x,j)=>eO s cs ns nl k (t++ [x]) (m+aA x.op) j
theorem kO {s:ByteArray} {cs:List Cls} {ns nl k:Nat} {t:List Ins} {i:Nat}:eO s cs ns nl k t 0 i= .ok (t,i):=by cases k<;>rfl
theorem vx {s:ByteArray} {cs:List Cls} {ns nl:Nat}: ∀{k:Nat} {t:List Ins} {m i:Nat} {r:List Ins} {j:Nat},eO s cs ns nl k t m i= .ok (r,j)->t.length<=r.length/\r.length<=t.length+k/\ ∃u,r=t++u:=by
 intro k
 induction k with
 |zero=>
  intro t m i r j h
  cases m with
  |zero=>cases h;exact⟨by omega,by omega,[],by simp⟩
  |succ m=>cases h
 |succ k ih=>
  intro t m i r j h
  cases m with
  |zero=>cases h;exact⟨by omega,by omega,[],by simp⟩
  |succ m=>
   simp only[eO]at h
   cases hx:nE s cs ns nl i with
   |error l=>rw[hx]at h;cases h
   |ok y=>
    rw[hx]at h;obtain⟨h1,h2,u,h3⟩:=ih h;simp at h1 h2;exact⟨by omega,by omega,y.1::u,by rw[h3];simp⟩
theorem C8 {s:ByteArray} {cs:List Cls} {ns nl:Nat}: ∀{k:Nat} {t:List Ins} {m n i:Nat},eO s cs ns nl k t (m+n) i=match eO s cs ns nl k t m i with
  | .error j=> .error j
  | .ok (r,j)=>eO s cs ns nl (k-(r.length-t.length)) r n j:=by
 intro k
 induction k with
 |zero=>
  intro t m n i
  cases m with
  |zero=>simp[kO]
  |succ m=>rw[show m+1+n=(m+n)+1 from by omega];rfl
 |succ k ih=>
  intro t m n i
  cases m with
  |zero=>simp[kO]
  |succ m=>
   rw[show m+1+n=(m+n)+1 from by omega];simp only[eO]
   cases hx:nE s cs ns nl i with
   |error l=>rfl
   |ok y=>
    obtain⟨x,j⟩:=y;simp only;rw[show m+n+aA x.op=(m+aA x.op)+n from by omega,ih]
    cases hr:eO s cs ns nl k (t++ [x]) (m+aA x.op) j with
    |error l=>rfl
    |ok q=>
     obtain⟨r,l⟩:=q;have:=vx hr;simp only
     have e:k-(r.length-(t++ [x]).length)=k+1-(r.length-t.length):=by
      have:=this.1;simp at this⊢;omega
     rw[e]
def oe (s:ByteArray) (cs:List Cls) (ns nl i:Nat):Except Nat (List Ins×Nat):=
 match eO s cs ns nl 24 [] 1 i with
 | .error j=> .error j
 | .ok (t,j)=>if(pk s j).toNat=46 then .ok (t,j+1)else .error j
def lL (s:ByteArray) (cs:List Cls) (gs:List Sig):Nat->List Bod->Nat->Except Nat (List Bod×Nat)
 |0,bs,i=>if(pk s i).toNat=59 then .ok (bs,i+1)else .error i
 |k+1,bs,i=>if(pk s i).toNat=59 then .ok (bs,i+1)else
  match eX s cs.length i with
  | .error j=> .error j
  | .ok (x,j)=>
   match ej s gs.length j with
   | .error l=> .error l
   | .ok (m,l)=>
    if(jC bs x m).isSome=true then .error j else
    match tys s cs.length 58 3 [] l with
    | .error p=> .error p
    | .ok (t,p)=>
     match oe s cs gs.length (t.length+2) p with
     | .error q=> .error q
     | .ok (is,q)=>lL s cs gs k (bs++ [⟨x,m,UInt8.ofNat (65+x)::jD gs m::t,is⟩]) q
def jf (s:ByteArray):Except Nat Img:=
 match ep s 4 [] 0 with
 | .error i=> .error i
 | .ok (cs,i)=>
  match gH s cs.length 3 [] i with
  | .error j=> .error j
  | .ok (gs,j)=>
   match lL s cs gs 6 [] j with
   | .error l=> .error l
   | .ok (bs,l)=>
    match tys s cs.length 58 3 [] l with
    | .error p=> .error p
    | .ok (t,p)=>
     match oe s cs gs.length t.length p with
     | .error q=> .error q
     | .ok (is,q)=>if q<s.size then .error q else .ok ⟨cs,gs,bs++ [⟨-1,-1,t,is⟩]⟩
def sk:Nat->List Ins->Nat
 |0,_=>0
 |_+1,[]=>0
 |m+1,x::t=>1+sk (m+aA x.op) t
def full:Nat->List Ins->Prop
 |0,[]=>True
 |0,_::_=>False
 |_+1,[]=>False
 |m+1,x::t=>full (m+aA x.op) t
def bO (t:List Ins) (i:Nat):Nat:=i+sk 1 (t.drop i)
theorem oP {t:List Ins}:sk 0 t=0:=by cases t<;>rfl
theorem D5: ∀{t:List Ins} {m:Nat},sk m t<=t.length:=by
 intro t
 induction t with
 |nil=>intro m;cases m<;>simp[sk]
 |cons x t ih=>
  intro m
  cases m with
  |zero=>simp[sk]
  |succ m=>have:=ih (m:=m+aA x.op);simp[sk];omega
theorem C9: ∀{t:List Ins} {m n:Nat},sk (m+n) t=sk m t+sk n (t.drop (sk m t)):=by
 intro t
 induction t with
 |nil=>intro m n;cases m<;>cases n<;>simp[sk]
 |cons x t ih=>
  intro m n
  cases m with
  |zero=>simp[oP]
  |succ m=>
   rw[show m+1+n=(m+n)+1 from by omega];simp only[sk];rw[show m+n+aA x.op=(m+aA x.op)+n from by omega,ih,show 1+sk (m+aA x.op) t=sk (m+aA x.op) t+1 from by omega,List.drop_succ_cons];omega
theorem xd: ∀{u:List Ins} {m:Nat} {v:List Ins},full m u->sk m (u++v)=u.length:=by
 intro u
 induction u with
 |nil=>
  intro m v h
  cases m with
  |zero=>simp[oP]
  |succ m=>cases h
 |cons x u ih=>
  intro m v h
  cases m with
  |zero=>cases h
  |succ m=>simp only[List.cons_append,sk,List.length_cons];rw[ih h];omega
theorem tg {s:ByteArray} {cs:List Cls} {ns nl:Nat}: ∀{k:Nat} {t:List Ins} {m i:Nat} {r:List Ins} {j:Nat},eO s cs ns nl k t m i= .ok (r,j)-> ∃u,r=t++u/\full m u/\u.length<=k:=by
 intro k
 induction k with
 |zero=>
  intro t m i r j h
  cases m with
  |zero=>cases h;exact⟨[],by simp,trivial,by simp⟩
  |succ m=>cases h
 |succ k ih=>
  intro t m i r j h
  cases m with
  |zero=>cases h;exact⟨[],by simp,trivial,by simp⟩
  |succ m=>
   simp only[eO]at h
   cases hx:nE s cs ns nl i with
   |error l=>rw[hx]at h;cases h
   |ok y=>
    rw[hx]at h;obtain⟨u,h1,h2,h3⟩:=ih h;exact⟨y.1::u,by rw[h1];simp,h2,by simp;omega⟩
def dJ (cs:List Cls) (gs:List Sig) (lo:L_) (x:Ins):L_:=
 if arith x.op.toNat=true then [105,105]
 else if x.op.toNat=119 then [105]
 else if x.op.toNat=115 then [lo.getD x.b 0]
 else if x.op.toNat=103 then [dI x.a]
 else if x.op.toNat=112 then [dI x.a,cO cs x.a x.b]
 else if x.op.toNat=99 then [dI x.a,gY gs x.b]
 else []
def cj (cs:List Cls) (gs:List Sig) (lo:L_) (x:Ins):UInt8:=
 if x.op.toNat=122 then 122
 else if x.op.toNat=108 then lo.getD x.b 0
 else if x.op.toNat=110 then dI x.a
 else if x.op.toNat=103 then cO cs x.a x.b
 else if x.op.toNat=99 then gZ gs x.b
 else 105
def bT (cs:List Cls) (gs:List Sig) (lo:L_) (x:Ins) (ts:L_):Option UInt8:=
 if dJ cs gs lo x≠ []/\eG cs ts (dJ cs gs lo x)=false then none
 else if x.op.toNat=101 then(if isR (ts.getD 0 0)=true/\isR (ts.getD 1 0)=true then some 105 else none)
 else if x.op.toNat=120 then(if isR (ts.getD 0 0)=true then some (dI x.a)else none)
 else if x.op.toNat=44 then some (ts.getD 1 0)
 else if x.op.toNat=105 then(if(ts.getD 0 0).toNat=105/\(jF cs (ts.getD 1 0) (ts.getD 2 0)).toNat≠45 then some (jF cs (ts.getD 1 0) (ts.getD 2 0))else none)
 else if x.op.toNat=111 then(if(ts.getD 0 0).toNat=105 then some 105 else none)
 else some (cj cs gs lo x)
def cz (t:List Ins) (g:Nat->Option UInt8):Nat->Nat->Option L_
 |0,_=>some []
 |n+1,k=>match g k with
  |none=>none
  |some c=>(cz t g n (bO t k)).map (c:: ·)
def cS (cs:List Cls) (gs:List Sig) (lo:L_) (t:List Ins):Nat->Nat->Option UInt8
 |0,_=>none
 |f+1,i=>match t[i]? with
  |none=>none
  |some x=>match cz t (cS cs gs lo t f) (aA x.op) (i+1)with
   |none=>none
   |some ts=>bT cs gs lo x ts
def fY (s:ByteArray):Except (Nat×Nat) Img:=
 if 400<s.size then .error (1,0)else
 match jf s with
 | .error j=> .error (2,j)
 | .ok im=>match im.zq.findSome? (λb=>unl im.zz im.zq b.code)with
  |some p=> .error (3,p)
  |none=> .ok im
def fe (im:Img) (b:Bod):Bool:=match cS im.zz im.zj b.locals b.code b.code.length 0 with
 |none=>false
 |some c=>cy im.zz c (if b.cls<0 then 105 else gZ im.zj b.meth.toNat)
def gD (s:ByteArray):Nat×Nat:=match fY s with
 | .error e=>e
 | .ok im=>match im.zq.findIdx? (λb=> !fe im b)with
  |some k=>(4,k)
  |none=>(0,0)
structure WfN (cs:List Cls) (ns nl:Nat) (x:Ins):Prop where
 op:dV.contains x.op.toNat=true
 pos:x.pos<=2000
 cls:x.op.toNat=110\/x.op.toNat=120\/x.op.toNat=103\/x.op.toNat=112\/x.op.toNat=99->x.a<cs.length
 fld:x.op.toNat=103\/x.op.toNat=112->x.b<bH cs x.a
 sig:x.op.toNat=99->x.b<ns
 loc:x.op.toNat=108\/x.op.toNat=115->x.b<nl
 num:x.b<100
structure lM (cs:List Cls) (gs:List Sig) (b:Bod):Prop where
 code: ∀x∈b.code,WfN cs gs.length b.locals.length x
 full:full 1 b.code
 len:b.code.length<=24
 loc:b.locals.length<=5/\ ∀t∈b.locals,cZ cs.length t=true
 cls:(b.cls= -1/\b.meth= -1)\/(0<=b.cls/\b.cls<cs.length/\0<=b.meth/\b.meth<gs.length)
structure jG (im:Img):Prop where
 cls:WfC im.zz
 nc:im.zz.length<=4
 ns:im.zj.length<=3
 sig: ∀g∈im.zj,cZ im.zz.length g.arg=true/\cZ im.zz.length g.ret=true
 bod: ∀b∈im.zq,lM im.zz im.zj b
 nb:im.zq.length<=7
theorem kP {c:UInt8} (h:cd c=true):48<=c.toNat/\c.toNat<=57:=by simpa[cd]using h
theorem BO {s:ByteArray} {cs:List Cls} {ns nl i:Nat} {x:Ins} {j:Nat} (hs:s.size<=2000) (h:nE s cs ns nl i= .ok (x,j)):WfN cs ns nl x:=by
 unfold nE at h
 split at h
 .rename_i hl
  split at h
  .rename_i a b l ho
   cases h
   have hp:i<s.size:=iq (by
    obtain h|h:=Nat.eq_zero_or_pos (pk s i).toNat
    .rw[h]at hl;exact absurd hl (by decide)
    .exact h)
   by_cases hd:cd (pk s i)=true
   .have hr:=kP hd;refine⟨hl,by simp;omega,?_,?_,?_,?_,?_⟩
    all_goals simp only[hd,if_true]
    all_goals (intros;omega)
   .refine⟨hl,by simp;omega,?_,?_,?_,?_,?_⟩
    all_goals simp only[hd,if_false,dj]
    all_goals
     unfold bA at ho
     repeat' split at ho
    all_goals first
     | (cases ho;done)
     |skip
    all_goals (intros;first|omega|skip)
    all_goals (cases ho;first|omega| (have:=fL ‹_›;omega) | (have:=lz ‹_›;omega) | (have h1:=fL ‹ej s 10 (i+1)=_›;have h2:=fL ‹ej s 10 _=Except.ok (_,j)›;omega))
  .cases h
 .cases h
theorem xU {s:ByteArray} {cs:List Cls} {ns nl:Nat} (hs:s.size<=2000): ∀{k:Nat} {t:List Ins} {m i:Nat} {r:List Ins} {j:Nat},(∀x∈t,WfN cs ns nl x)->eO s cs ns nl k t m i= .ok (r,j)-> ∀x∈r,WfN cs ns nl x:=by
 intro k
 induction k with
 |zero=>
  intro t m i r j hw h
  cases m with
  |zero=>cases h;exact hw
  |succ m=>cases h
 |succ k ih=>
  intro t m i r j hw h
  cases m with
  |zero=>cases h;exact hw
  |succ m=>
   simp only[eO]at h
   cases hx:nE s cs ns nl i with
   |error l=>rw[hx]at h;cases h
   |ok y=>
    rw[hx]at h
    exact ih (λz hz=>by
     obtain hz|hz:=List.mem_append.1 hz
     .exact hw z hz
     .simp at hz;subst hz;exact BO hs hx) h
theorem th {s:ByteArray} {cs:List Cls} {ns nl i:Nat} {r:List Ins} {j:Nat} (hs:s.size<=2000) (h:oe s cs ns nl i= .ok (r,j)):(∀x∈r,WfN cs ns nl x)/\full 1 r/\r.length<=24:=by
 unfold oe at h
 split at h
 .cases h
 .rename_i t l hn
  split at h
  .cases h
   obtain⟨u,h1,h2,h3⟩:=tg hn;simp at h1;subst h1;exact⟨xU hs (by simp) hn,h2,h3⟩
  .cases h
theorem BP {s:ByteArray} {cs:List Cls} {gs:List Sig} (hs:s.size<=2000) (hn:cs.length<=4) (hg: ∀g∈gs,cZ cs.length g.arg=true/\cZ cs.length g.ret=true): ∀{k:Nat} {bs:List Bod} {i:Nat} {r:List Bod} {j:Nat},(∀b∈bs,lM cs gs b)->lL s cs gs k bs i= .ok (r,j)->(∀b∈r,lM cs gs b)/\r.length<=k+bs.length:=by
 intro k
 induction k with
 |zero=>
  intro bs i r j hw h;unfold lL at h
  split at h
  .cases h;exact⟨hw,by omega⟩
  .cases h
 |succ k ih=>
  intro bs i r j hw h;unfold lL at h
  split at h
  .cases h;exact⟨hw,by omega⟩
  .split at h
   .cases h
   .rename_i x l1 h1
    split at h
    .cases h
    .rename_i m l2 h2
     split at h
     .cases h
     .split at h
      .cases h
      .rename_i t l3 h3
       split at h
       .cases h
       .rename_i is l4 h4
        have hx:=lz h1;have hm:=fL h2;have ht:=jd h3;have ha:=mA (by simp) h3;have hc:=th hs h4
        have:=ih (λb hb=>by
         obtain hb|hb:=List.mem_append.1 hb
         .exact hw b hb
         .rw[List.mem_singleton]at hb;subst hb;refine⟨by simpa using hc.1,hc.2.1,hc.2.2,⟨by simp at ht⊢;omega,?_⟩,Or.inr ⟨by simp,by simp;omega,by simp,by simp;omega⟩⟩;intro c a0;rw[List.mem_cons,List.mem_cons]at a0;obtain rfl|rfl|a0:=a0
          .exact oZ hx hn
          .unfold jD;rw[aH (by omega)];exact(hg _ (cN _)).1
          .exact ha c a0) h
        simp at this;exact⟨this.1,by omega⟩
theorem ti {s:ByteArray} {im:Img} (hs:s.size<=2000) (h:jf s= .ok im):jG im:=by
 unfold jf at h
 split at h
 .cases h
 .rename_i cs l1 h1
  split at h
  .cases h
  .rename_i gs l2 h2
   split at h
   .cases h
   .rename_i bs l3 h3
    split at h
    .cases h
    .rename_i t l4 h4
     split at h
     .cases h
     .rename_i is l5 h5
      split at h
      .cases h
      .cases h
       have hc:=rA h1;have a3:=oY h2;have a2:=sY (by simp) h2;have hb:=BP hs hc.2 a2 (by simp) h3;have ht:=jd h4;have a4:=mA (by simp) h4;have a1:=th hs h5;refine⟨hc.1,hc.2,by simpa using a3,a2,?_,by simp at hb⊢;omega⟩;intro b a0;simp at a0;obtain a0|rfl:=a0
       .exact hb.1 b a0
       .exact⟨a1.1,a1.2.1,a1.2.2,⟨by simp at ht⊢;omega,a4⟩,Or.inl ⟨rfl,rfl⟩⟩
inductive V where
 |i (n:Int)
 |z
 |o (k:Nat)
 deriving DecidableEq
def V.K:V->Nat
 | .i _=>105
 | .z=>122
 | .o _=>111
def V.N:V->Int
 | .i n=>n
 | .z=>0
 | .o k=>k
structure Ob where
 cls:Nat
 fs:List V
structure Ev where
 heap:List Ob
 read:Nat
 left:Nat
 out:L_
inductive R where
 |bad (e:Nat) (out:L_)
 |ok (v:V) (l:List V) (s:Ev)
def dc (t:UInt8):V:=if t.toNat=105 then .i 0 else .z
def bJ (cs:List Cls) (a:Nat):L_:=(cs[a]?.map (·.fields)).getD []
def cr (cs:List Cls) (a:Nat):List V:=(bJ cs a).map dc
def w32 (n:Int):Int:=RowKit.wrap32 n
def oI (op:Nat) (a b:Int):Int:=
 if op=43 then w32 (a+b)
 else if op=45 then w32 (a-b)
 else if op=42 then w32 (a*b)
 else if op=60 then(if a<b then 1 else 0)
 else(if a=b then 1 else 0)
def jH (s:ByteArray) (i:Nat):Int:=if h:i<s.size then(s[i].toNat:Int)else-1
def Ev.cls (s:Ev) (k:Nat):Nat:=(s.heap[k]?.map (·.cls)).getD 0
def Ev.fs (s:Ev) (k:Nat):List V:=(s.heap[k]?.map (·.fs)).getD []
def Ev.put (s:Ev) (k j:Nat) (v:V):Ev:={s with heap:=s.heap.set k ⟨s.cls k,(s.fs k).set j v⟩}
def Ev.say (s:Ev) (n:Int):Ev:={s with out:=s.out++Lib.itoa n++ [32]}
section
variable (im:Img) (inp:ByteArray)
def og (x:Ins) (l:List V) (s:Ev):R:=
 if x.op.toNat=114 then .ok (.i (jH inp s.read)) l {s with read:=s.read+1}
 else if x.op.toNat=122 then .ok .z l s
 else if x.op.toNat=108 then .ok (l.getD x.b .z) l s
 else if x.op.toNat=110 then .ok (.o s.heap.length) l {s with heap:=s.heap++ [⟨x.a,cr im.zz x.a⟩]}
 else .ok (.i x.b) l s
def tj (x:Ins) (v:V) (l:List V) (s:Ev):R:=
 if x.op.toNat=115 then .ok (.i 0) (l.set x.b v) s
 else if x.op.toNat=119 then .ok (.i 0) l (s.say v.N)
 else if x.op.toNat=120 then
  match v with
  | .o k=>if bF im.zz 5 (s.cls k) x.a=true then .ok v l s else .bad 8 s.out
  |_=> .ok v l s
 else
  match v with
  | .o k=> .ok ((s.fs k).getD x.b .z) l s
  |_=> .bad 6 s.out
def eP (op:Nat) (a b:Int) (l:List V) (s:Ev):R:=
 if op=47 then(if b=0 then .bad 7 s.out else .ok (.i (w32 (Int.tdiv a b))) l s)else .ok (.i (oI op a b)) l s
def ck (x:Ins) (k:Nat) (s:Ev):Bod:=im.zq.getD (cY im.zz im.zq x.b 5 (s.cls k)).toNat ⟨-1,-1,[],[]⟩
def bn (b:Bod) (vs:List V):List V:=vs++(b.locals.drop vs.length).map dc
def tk (call:Bod->List V->R) (d:Nat) (x:Ins) (u v:V) (l:List V) (s:Ev):R:=
 if x.op.toNat=44 then .ok v l s
 else if x.op.toNat=101 then .ok (if u=v then .i 1 else .i 0) l s
 else if x.op.toNat=99 then
  match u with
  | .o k=>if 12<=d then .bad 10 s.out else
   match call (ck im x k s) (bn (ck im x k s) [u,v])with
   | .bad e o=> .bad e o
   | .ok r _ s=> .ok r l s
  |_=> .bad 6 s.out
 else if x.op.toNat=112 then
  match u with
  | .o k=> .ok (.i 0) l (s.put k x.b v)
  |_=> .bad 6 s.out
 else eP x.op.toNat u.N v.N l s
def iN (c d:List V->Ev->R):Nat->List V->Ev->R
 |0,_,s=> .bad 5 s.out
 |k+1,l,s=>match c l s with
  | .bad e o=> .bad e o
  | .ok v l s=>if v.N=0 then .ok (.i 0) l s else
   match d l s with
   | .bad e o=> .bad e o
   | .ok _ l s=>iN c d k l s
def cL:Nat->Bod->Nat->Nat->List V->Ev->R
 |0,_,_,_,_,s=> .bad 5 s.out
 |f+1,b,d,i,l,s=>
  if s.left=0 then .bad 5 s.out else
  match b.code[i]? with
  |none=> .bad 0 s.out
  |some x=>
   if aA x.op=0 then og im inp x l {s with left:=s.left-1}else
   if x.op.toNat=111 then iN (cL f b d (i+1)) (cL f b d (bO b.code (i+1))) f l {s with left:=s.left-1}else
   match cL f b d (i+1) l {s with left:=s.left-1}with
   | .bad e o=> .bad e o
   | .ok u l s=>
    if x.op.toNat=105 then cL f b d (if u.N=0 then bO b.code (bO b.code (i+1))else bO b.code (i+1)) l s
    else if aA x.op=1 then tj im x u l s
    else match cL f b d (bO b.code (i+1)) l s with
     | .bad e o=> .bad e o
     | .ok v l s=>tk im (λb' l'=>cL f b' (d+1) 0 l' s) d x u v l s
def oh (fuel:Nat):L_×Int×Nat:=
 let b:=im.zq.getD (im.zq.length-1) ⟨-1,-1,[],[]⟩
 match cL im inp fuel b 1 0 (bn b []) ⟨[],0,fuel,[]⟩with
 | .bad e o=>(o,0,e)
 | .ok v _ s=>(s.out,v.N,0)
end
end Sp
section
open Go Sp
abbrev St:=Option (L_×L_)
abbrev Tn:=List St×Bool×Bool
def gE (im:Img) (bd:Bod) (T:Tn) (i:Nat):Option Tn:=
 match bd.code[i]?,T.1.getD i none with
 |some x,some (s,l)=>
  match eN im.zz im.zj bd x s l with
  |none=>none
  |some (s',l')=>some (cF im.zz (cF im.zz T (eC x i).1 s' l') (eC x i).2 s' l')
 |_,_=>some T
def eE (im:Img) (bd:Bod):Nat->Nat->Tn->Option Tn
 |0,_,T=>some T
 |f+1,i,T=>if T.2.2=true then some T else
  match gE im bd T i with
  |none=>none
  |some T'=>eE im bd f (i+1) T'
def fA (im:Img) (bd:Bod):Nat->Tn->Option (List St)
 |0,T=>some T.1
 |f+1,T=>if T.2.1=false then some T.1 else
  match eE im bd bd.code.length 0 (T.1,false,T.2.2)with
  |none=>none
  |some T'=>if T'.2.2=true then none else fA im bd f T'
def dh (bd:Bod):List St:=(List.replicate bd.code.length none).set 0 (some ([],bd.locals))
def dR (im:Img) (bd:Bod):Option (List St):=fA im bd 80000 (dh bd,true,false)
def j6 (tb:List St):Nat:=tb.countP Option.isSome
def okZ (nc nl:Nat) (s l:L_):Prop:=(∀c∈s,okT nc c=true)/\(∀c∈l,okT nc c=true)/\l.length=nl
def wfT (nc nl n:Nat) (tb:List St):Prop:=tb.length=n/\ ∀(k:Nat) s l,tb[k]?=some (some (s,l))->okZ nc nl s l/\s.length<j6 tb
theorem oQ (tb:List St):j6 tb<=tb.length:=List.countP_le_length
theorem wfT.okS {nc nl n:Nat} {tb:List St} (h:wfT nc nl n tb) (hn:n<=100) (k:Nat) (s l:L_) (hk:tb[k]?=some (some (s,l))):okS nc nl s l:=by
 obtain⟨⟨a,b,c⟩,d⟩:=h.2 k s l hk;have:=oQ tb;have:=h.1;exact⟨a,b,c,by omega⟩
theorem tm {tb:List St} {j:Nat} {m:L_×L_} (hj:j<tb.length):j6 (tb.set j (some m))=j6 tb+(if(tb[j]'hj).isSome then 0 else 1):=by
 unfold j6;rw[List.countP_set hj];have:tb[j].isSome=true->0<tb.countP Option.isSome:=λh=>List.countP_pos_iff.2 ⟨_,cN hj,h⟩
 by_cases h:tb[j].isSome=true
 .have:=this h;simp[h];omega
 .simp[h]
theorem qR {cs:List Cls} (hn:cs.length<=4) (hw:WfC cs): ∀{a b:L_},(∀c∈a,okT cs.length c=true)->(∀c∈b,okT cs.length c=true)-> ∀c∈dU cs a b,okT cs.length c=true:=by
 intro a
 induction a with
 |nil=>intro b _ _ c hc;simp[dU]at hc
 |cons x a ih=>
  intro b ha hb c hc
  cases b with
  |nil=>simp[dU]at hc
  |cons y b=>
   simp only[dU,List.zipWith_cons_cons,List.mem_cons]at hc;obtain rfl|hc:=hc
   .exact te hn hw (ha _ (by simp)) (hb _ (by simp))
   .exact ih (λc h=>ha c (by simp[h])) (λc h=>hb c (by simp[h])) c hc
theorem jI {cs:List Cls} {nl n:Nat} (hn:cs.length<=4) (hw:WfC cs) {T:Tn} {j:Int} {sb lb:L_} (h:wfT cs.length nl n T.1) (hz:okZ cs.length nl sb lb) (hl:sb.length<=j6 T.1):
  wfT cs.length nl n (cF cs T j sb lb).1/\j6 T.1<=j6 (cF cs T j sb lb).1:=by
 unfold cF
 split
 .exact⟨h,b8 _⟩
 split
 .exact⟨h,b8 _⟩
 rename_i h1 h2
 have a0:j.toNat<T.1.length:=by omega
 split
 .exact⟨h,b8 _⟩
 rename_i m hm
 split
 .exact⟨h,b8 _⟩
 have hs:=tm (m:=m) a0;simp only;refine⟨⟨by rw[List.length_set];exact h.1,?_⟩,by omega⟩;intro k s l hk;rw[List.getElem?_set]at hk
 split at hk
 .rename_i hjk
  subst hjk
  try rw[if_pos a0]at hk
  injection hk with hk;injection hk with hk;subst hk;have a1:T.1.getD j.toNat none=T.1[j.toNat]:=by simp[List.getD,a0]
  rw[a1]at hm
  cases ho:T.1[j.toNat]with
  |none=>
   rw[ho]at hm hs;simp[io]at hm;obtain⟨rfl,rfl⟩:=hm;simp at hs;exact⟨hz,by omega⟩
  |some p=>
   obtain⟨sa,la⟩:=p;rw[ho]at hm hs;simp only[io]at hm
   split at hm
   .rename_i hlen
    injection hm with hm;injection hm with h3 h4;subst h3 h4;have ha:=h.2 j.toNat sa la (by rw[aH a0,ho]);simp at hs;refine⟨⟨qR hn hw ha.1.1 hz.1,qR hn hw ha.1.2.1 hz.2.1,?_⟩,?_⟩
    .rw[qQ (by rw[ha.1.2.2,hz.2.2])];exact ha.1.2.2
    .rw[qQ hlen];omega
   .cases hm
 .have:=h.2 k s l hk;exact⟨this.1,by omega⟩
theorem lA (cs:List Cls) (T:Tn) (j:Int) (sb lb:L_):(cF cs T j sb lb).1.length=T.1.length:=by
 unfold cF
 split
 .rfl
 split
 .rfl
 split
 .rfl
 split
 .rfl
 .simp
theorem j8 {n:Nat} {c:UInt8} (h:cZ n c=true):okT n c=true:=by simp[okT,h]
theorem tn {im:Img} (hW:WfI im) {x:Ins} {nl:Nat} (hx:WfX im.zz im.zj.length nl x): ∀c∈bZ im.zz im.zj x,okT im.zz.length c=true:=by
 intro c hc
 have a0: ∀a,a<im.zz.length->okT im.zz.length (dI a)=true:=by
  intro a ha;have:=hW.nc;rw[eF]
  right;left
  have h1:(dI a).toNat=65+a:=by simp[dI];omega
  omega
 unfold bZ at hc
 split at hc
 .simp at hc;subst hc;simp[eF]
 split at hc
 .simp at hc;subst hc;simp[eF]
 split at hc
 .rename_i h
  simp at hc;subst hc;exact a0 _ (hx.cls (by omega))
 split at hc
 .rename_i h
  simp at hc;subst hc;have h1:=hx.cls (by omega);have h2:=hx.fld (by omega);obtain⟨cl,a0⟩: ∃cl,im.zz[x.a]?=some cl:=⟨_,aH h1⟩;unfold cO;rw[a0];simp only[bH,a0]at h2;simp only[Option.map_some,Option.getD_some]at h2⊢;have hf:=hW.cls x.a cl a0
  have hm:cl.fields.getD x.b 0∈cl.fields:=by
   have:cl.fields.getD x.b 0=cl.fields[x.b]'(by simpa using h2):=by simp[List.getD,h2]
   rw[this];exact cN _
  exact j8 (fK (by omega) (hf.2.2.2 _ hm))
 split at hc
 .rename_i h
  simp at hc;subst hc;have h2:=hx.sig h;obtain⟨g,hg⟩: ∃g,im.zj[x.b]?=some g:=⟨_,aH h2⟩;unfold gZ;rw[hg];simp only[Option.map_some,Option.getD_some];exact j8 (hW.sig g (bp hg)).2
 .simp at hc
theorem mK {n:Nat} {l:L_} (h: ∀c∈l,okT n c=true) {k:Nat} (hk:k<l.length):okT n (l.getD k 0)=true:=by
 have:l.getD k 0=l[k]:=by simp[List.getD,hk]
 rw[this];exact h _ (cN _)
theorem mL {im:Img} (hW:WfI im) {bd:Bod} {x:Ins} (hx:WfX im.zz im.zj.length bd.locals.length x) {s l s' l':L_} (hz:okZ im.zz.length bd.locals.length s l) (h:eN im.zz im.zj bd x s l=some (s',l')):
  okZ im.zz.length bd.locals.length s' l'/\s'.length<=s.length+1:=by
 have hp:=tn hW hx;have a0:=xT im.zz im.zj x
 have key: ∀k,(∀c∈s.take k++bZ im.zz im.zj x,okT im.zz.length c=true)/\(s.take k++bZ im.zz im.zj x).length<=s.length+1:=by
  intro k
  constructor
  .intro c hc;rw[List.mem_append]at hc;obtain hc|hc:=hc
   .exact hz.1 c (List.mem_of_mem_take hc)
   .exact hp c hc
  .simp;omega
 unfold eN at h
 split at h
 .split at h
  .cases h
  .rename_i k hk
   injection h with h;injection h with h1 h2;subst h1;refine⟨⟨(key _).1,?_,?_⟩,(key _).2⟩
   .intro c hc;rw[<-h2]at hc
    split at hc
    .rename_i h115
     have:=List.mem_or_eq_of_mem_set hc;obtain h|h:=this
     .exact hz.2.1 c h
     .rw[h]
      apply mK hz.1
      rw[h115]at hk;unfold fg at hk;simp at hk;have:=List.length_pos_iff.2 hk.1;omega
    .exact hz.2.1 c hc
   .rw[<-h2]
    split
    .rw[List.length_set];exact hz.2.2
    .exact hz.2.2
 split at h
 .split at h
  .cases h
  .rename_i h108 _
   injection h with h;injection h with h1 h2;subst h1 h2;refine⟨⟨?_,hz.2⟩,by simp⟩;intro c hc;rw[List.mem_append]at hc;obtain hc|hc:=hc
   .exact hz.1 c hc
   .simp at hc;subst hc;have:=mK hz.2.1 (k:=x.b) (by rw[hz.2.2];exact hx.loc (Or.inl h108));simpa[List.getD]using this
 split at h
 .injection h with h;injection h with h1 h2;subst h1 h2;exact⟨⟨(key _).1,hz.2⟩,(key _).2⟩
 .cases h
theorem tq {im:Img} (hW:WfI im) {bd:Bod} (hb:WfB im.zz im.zj bd) {n:Nat} {T T':Tn} {i:Nat} (h:wfT im.zz.length bd.locals.length n T.1) (hs:gE im bd T i=some T'):
  wfT im.zz.length bd.locals.length n T'.1:=by
 unfold gE at hs
 split at hs
 .rename_i x s l hx hst
  split at hs
  .cases hs
  .rename_i s' l' he
   injection hs with hs;subst hs
   have hg:T.1[i]?=some (some (s,l)):=by
    simp only[List.getD]at hst
    cases hh:T.1[i]? with
    |none=>rw[hh]at hst;cases hst
    |some o=>rw[hh]at hst;simp at hst;rw[hst]
   have hz:=h.2 i s l hg;have a0:=mL hW (hb.code x (bp hx)) hz.1 he;have h1:=jI hW.nc hW.cls (j:=(eC x i).1) h a0.1 (by omega);exact(jI hW.nc hW.cls (j:=(eC x i).2) h1.1 a0.1 (by omega)).1
 .injection hs with hs;subst hs;exact h
theorem g8 {im:Img} {bd:Bod} (hb:WfB im.zz im.zj bd):wfT im.zz.length bd.locals.length bd.code.length (dh bd):=by
 unfold dh;refine⟨by simp,?_⟩;intro k s l hk;have h0:0<(List.replicate bd.code.length (none:St)).length:=by simpa using hb.len.1
 have hs:=tm (m:=([],bd.locals)) h0;rw[List.getElem?_set]at hk
 split at hk
 .rename_i hk0
  subst hk0
  try rw[if_pos h0]at hk
  injection hk with hk;injection hk with hk;injection hk with h1 h2;subst h1 h2;refine⟨⟨by simp,λc hc=>j8 (hb.loc.2 c hc),rfl⟩,?_⟩;rw[hs];simp
 .rw[List.getElem?_replicate]at hk
  split at hk<;>simp at hk
def l8 (im:Img) (bd:Bod) (f:Nat):Option Tn->Option (List St)
 |none=>none
 |some T'=>if T'.2.2=true then none else fA im bd f T'
theorem o8 (im:Img) (bd:Bod) (f:Nat) (tb:List St):fA im bd (f+1) (tb,true,false)=l8 im bd f (eE im bd bd.code.length 0 (tb,false,false)):=by
 unfold fA;rw[if_neg (by simp)];simp only
 cases eE im bd bd.code.length 0 (tb,false,false)<;>rfl
theorem j9 (im:Img) (bd:Bod) (f:Nat) (tb:List St) (b:Bool):fA im bd f (tb,false,b)=some tb:=by
 cases f<;>simp[fA]
theorem o9 (im:Img) (bd:Bod) (f i:Nat) (T:Tn) (h:T.2.2=true):eE im bd f i T=some T:=by
 cases f
 .rfl
 .simp only[eE,if_pos h]
theorem tr {im:Img} {bd:Bod} {f i:Nat} {T:Tn} (h:T.2.2=false) (hs:gE im bd T i=none):eE im bd (f+1) i T=none:=by
 simp[eE,h,hs]
theorem ol {im:Img} {bd:Bod} {f i:Nat} {T T':Tn} (h:T.2.2=false) (hs:gE im bd T i=some T'):eE im bd (f+1) i T=eE im bd f (i+1) T':=by
 simp[eE,h,hs]
theorem vy {im:Img} {bd:Bod} {T:Tn} {i:Nat} {x:Ins} {s l:L_} (hx:bd.code[i]?=some x) (h:T.1[i]?=some (some (s,l))) (he:eN im.zz im.zj bd x s l=none):gE im bd T i=none:=by
 unfold gE;rw[co,h,hx];simp[he]
theorem pb {im:Img} {bd:Bod} {T:Tn} {i:Nat} {x:Ins} {s l s' l':L_} (hx:bd.code[i]?=some x) (h:T.1[i]?=some (some (s,l))) (he:eN im.zz im.zj bd x s l=some (s',l')):
  gE im bd T i=some (cF im.zz (cF im.zz T (eC x i).1 s' l') (eC x i).2 s' l'):=by
 unfold gE;rw[co,h,hx];simp[he]
theorem qS {im:Img} (hW:WfI im) {bd:Bod} (hb:WfB im.zz im.zj bd) {n:Nat}: ∀{f i:Nat} {T T':Tn},wfT im.zz.length bd.locals.length n T.1->eE im bd f i T=some T'->wfT im.zz.length bd.locals.length n T'.1:=by
 intro f
 induction f with
 |zero=>intro i T T' h hs;simp[eE]at hs;subst hs;exact h
 |succ f ih=>
  intro i T T' h hs;simp only[eE]at hs
  split at hs
  .injection hs with hs;subst hs;exact h
  .split at hs
   .cases hs
   .rename_i T1 h1
    exact ih (tq hW hb h h1) hs
theorem vz {im:Img} (hW:WfI im) {bd:Bod} (hb:WfB im.zz im.zj bd) {n:Nat}: ∀{f:Nat} {T:Tn} {tb:List St},wfT im.zz.length bd.locals.length n T.1->fA im bd f T=some tb->wfT im.zz.length bd.locals.length n tb:=by
 intro f
 induction f with
 |zero=>intro T tb h hs;simp[fA]at hs;subst hs;exact h
 |succ f ih=>
  intro T tb h hs;simp only[fA]at hs
  split at hs
  .injection hs with hs;subst hs;exact h
  .split at hs
   .cases hs
   .rename_i T1 h1
    split at hs
    .cases hs
    .exact ih (qS hW hb (by exact h) h1) hs
theorem nG {im:Img} (hW:WfI im) {bd:Bod} (hb:WfB im.zz im.zj bd) {tb:List St} (h:dR im bd=some tb):wfT im.zz.length bd.locals.length bd.code.length tb:=
 vz hW hb (g8 hb) h
theorem dW {cs:List Cls} (hw:WfC cs) {p:Int} (hp:0<=p):cX cs p<p/\ -1<=cX cs p:=by
 unfold cX
 cases h:cs[p.toNat]? with
 |none=>simp;omega
 |some c=>
  have:=hw _ _ h;simp;omega
theorem vA {cs:List Cls} (hw:WfC cs): ∀{f:Nat} {p y:Int},p<f->bF cs f p y=bF cs (f+1) p y:=by
 intro f
 induction f with
 |zero=>intro p y h;simp[bF];intro h';omega
 |succ f ih=>
  intro p y h;rw[bF,bF]
  by_cases h0:p<0
  .simp[h0]
  .simp only[h0,if_false]
   by_cases hy:p=y
   .simp[hy]
   .simp only[hy,if_false];have:=dW hw (p:=p) (by omega);exact ih (by omega)
theorem fE {cs:List Cls} (hw:WfC cs) {x y:Int} (h0:0<=x) (h1:x<=4):bF cs 5 x y=true↔x=y\/bF cs 5 (cX cs x) y=true:=by
 rw[bF];simp only[if_neg (show¬x<0 by omega)]
 by_cases hy:x=y
 .simp[hy]
 .simp only[hy,if_false,false_or];have:=dW hw h0;rw[vA hw (by omega:cX cs x<(4:Nat))]
theorem kQ {cs:List Cls} (hw:WfC cs) {x y:Int} (h:x<0):bF cs 5 x y=false:=by
 rw[bF];simp[h]
theorem pd {cs:List Cls} (hw:WfC cs) {x:Int} (h:0<=x):bF cs 5 x x=true:=by
 rw[bF];simp;omega
theorem vB {cs:List Cls} (hw:WfC cs): ∀(k:Nat) {x y:Int},x<=k->k<=4->bF cs 5 x y=true->0<=y/\y<=x:=by
 intro k
 induction k with
 |zero=>
  intro x y hx hk h
  by_cases h0:x<0
  .rw[kQ hw h0]at h;cases h
  .obtain rfl|h:=(fE hw (by omega) (by omega)).1 h
   .omega
   .have:=dW hw (p:=x) (by omega);rw[kQ hw (by omega)]at h;cases h
 |succ k ih=>
  intro x y hx hk h
  by_cases h0:x<0
  .rw[kQ hw h0]at h;cases h
  .obtain rfl|h:=(fE hw (by omega) (by omega)).1 h
   .omega
   .have:=dW hw (p:=x) (by omega);have:=ih (by omega) (by omega) h;omega
theorem xe {cs:List Cls} (hw:WfC cs): ∀(k:Nat) {x y z:Int},x<=k->k<=4->bF cs 5 x y=true->bF cs 5 y z=true->bF cs 5 x z=true:=by
 intro k
 induction k with
 |zero=>
  intro x y z hx hk h h'
  by_cases h0:x<0
  .rw[kQ hw h0]at h;cases h
  .obtain rfl|h:=(fE hw (by omega) (by omega)).1 h
   .exact h'
   .have:=dW hw (p:=x) (by omega);rw[kQ hw (by omega)]at h;cases h
 |succ k ih=>
  intro x y z hx hk h h'
  by_cases h0:x<0
  .rw[kQ hw h0]at h;cases h
  .obtain rfl|h:=(fE hw (by omega) (by omega)).1 h
   .exact h'
   .have:=dW hw (p:=x) (by omega);exact(fE hw (by omega) (by omega)).2 (Or.inr (ih (by omega) (by omega) h h'))
theorem vC {cs:List Cls} (hw:WfC cs): ∀{f:Nat} {p y:Int},p<f->f<=5->p<=3->
  (lQ cs y f p=45/\ ∀q,bF cs 5 p q=true->bF cs 5 y q=false)\/
  ∃q:Nat,q<=3/\lQ cs y f p=UInt8.ofNat (65+q)/\bF cs 5 p q=true/\bF cs 5 y q=true/\ ∀r,bF cs 5 p r=true->bF cs 5 y r=true->bF cs 5 q r=true:=by
 intro f
 induction f with
 |zero=>intro p y h _ _;left;exact⟨rfl,λq hq=>by rw[kQ hw (by omega)]at hq;cases hq⟩
 |succ f ih=>
  intro p y h hf a0;rw[lQ]
  by_cases h0:p<0
  .left
   rw[if_pos h0];exact⟨rfl,λq hq=>by rw[kQ hw h0]at hq;cases hq⟩
  .rw[if_neg h0]
   by_cases hy:bF cs 5 y p=true
   .right
    rw[if_pos hy];refine⟨p.toNat,by omega,rfl,?_,?_,?_⟩
    .rw[Int.toNat_of_nonneg (by omega)];exact pd hw (by omega)
    .rw[Int.toNat_of_nonneg (by omega)];exact hy
    .intro r hr _;rw[Int.toNat_of_nonneg (by omega)];exact hr
   .rw[if_neg hy];have:=dW hw (p:=p) (by omega);obtain⟨h1,h2⟩ | ⟨q,hq,h1,h2,h3,h4⟩:=ih (p:=cX cs p) (y:=y) (by omega) (by omega) (by omega)
    .left
     refine⟨h1,λq hq=> ?_⟩;obtain rfl|hq:=(fE hw (by omega) (by omega)).1 hq
     .simpa using hy
     .exact h2 q hq
    .right
     refine⟨q,hq,h1,(fE hw (by omega) (by omega)).2 (Or.inr h2),h3,λr hr hr'=> ?_⟩;obtain rfl|hr:=(fE hw (by omega) (by omega)).1 hr
     .exact absurd hr' hy
     .exact h4 r hr hr'
abbrev kl (c:UInt8):Int:=(c.toNat:Int)-65
theorem aY {cs:List Cls} {a b:UInt8}:cy cs a b=true↔a=b\/b.toNat=45\/(isC b=true/\a.toNat=122)\/(isC a=true/\isC b=true/\bF cs 5 (kl a) (kl b)=true):=by
 unfold cy;have e:a=b↔a.toNat=b.toNat:=UInt8.toNat_inj.symm;rw[e]
 by_cases h1:a.toNat=b.toNat\/b.toNat=45
 .simp only[if_pos h1,true_iff];rcases h1 with h|h<;>simp[h]
 .rw[if_neg h1];have a0:=not_or.1 h1;simp only[a0.1,a0.2,false_or]
  by_cases hb:isC b=false
  .simp[hb]
  .have a1:isC b=true:=by simpa using hb
   simp only[hb,if_false,a1,true_and]
   by_cases ha:a.toNat=122
   .simp[ha]
   .simp only[ha,if_false,false_or]
    by_cases hc:isC a=false
    .simp[hc]
    .have a2:isC a=true:=by simpa using hc
     simp[hc,a2]
theorem iE {cs:List Cls} (a:UInt8):cy cs a a=true:=aY.2 (Or.inl rfl)
theorem jJ {cs:List Cls} (hw:WfC cs) {c:UInt8} (h:isC c=true):0<=kl c/\kl c<=3:=by
 rw[cI]at h;unfold kl;omega
theorem l9 {cs:List Cls} (hw:WfC cs) {a b c:UInt8} (h:cy cs a b=true) (h':cy cs b c=true):cy cs a c=true:=by
 rw[aY]at h h';rw[aY];obtain rfl|h| ⟨h1,h2⟩ | ⟨h1,h2,h3⟩:=h
 .exact h'
 .obtain rfl|h'| ⟨h1,h2⟩ | ⟨h1,h2,h3⟩:=h'
  .exact Or.inr (Or.inl h)
  .exact Or.inr (Or.inl h')
  .omega
  .rw[cI]at h1;omega
 .obtain rfl|h'| ⟨h3,h4⟩ | ⟨h3,h4,h5⟩:=h'
  .exact Or.inr (Or.inr (Or.inl ⟨h1,h2⟩))
  .exact Or.inr (Or.inl h')
  .rw[cI]at h1;omega
  .exact Or.inr (Or.inr (Or.inl ⟨h4,h2⟩))
 .obtain rfl|h'| ⟨h4,h5⟩ | ⟨h4,h5,h6⟩:=h'
  .exact Or.inr (Or.inr (Or.inr ⟨h1,h2,h3⟩))
  .exact Or.inr (Or.inl h')
  .rw[cI]at h2;omega
  .have:=jJ hw h1;exact Or.inr (Or.inr (Or.inr ⟨h1,h5,xe hw 4 (by omega) (by omega) h3 h6⟩))
theorem qT {cs:List Cls} (hw:WfC cs) {a b:UInt8} (h:cy cs a b=true) (h':cy cs b a=true):a=b:=by
 rw[aY]at h h';have e:a.toNat=b.toNat->a=b:=bS;obtain h|h| ⟨h1,h2⟩ | ⟨h1,h2,h3⟩:=h
 .exact h
 .obtain h'|h'| ⟨h1,h2⟩ | ⟨h1,h2,h3⟩:=h'
  .exact h'.symm
  .exact e (by omega)
  .omega
  .rw[cI]at h1;omega
 .obtain h'|h'| ⟨h3,h4⟩ | ⟨h3,h4,h5⟩:=h'
  .exact h'.symm
  .omega
  .rw[cI]at h1;omega
  .rw[cI]at h4;omega
 .obtain h'|h'| ⟨h4,h5⟩ | ⟨h4,h5,h6⟩:=h'
  .exact h'.symm
  .rw[cI]at h1;omega
  .rw[cI]at h2;omega
  .have r1:=jJ hw h1;have r2:=jJ hw h2;have:=vB hw 4 (by omega) (by omega) h3;have:=vB hw 4 (by omega) (by omega) h6
   apply e
   unfold kl at*;omega
theorem vD {cs:List Cls} (hw:WfC cs) {q:Nat} (hq:q<=3):isC (UInt8.ofNat (65+q))=true/\kl (UInt8.ofNat (65+q))=q:=by
 have h:(UInt8.ofNat (65+q)).toNat=65+q:=by simp;omega
 rw[cI];unfold kl;omega
theorem nH {cs:List Cls} (hw:WfC cs) (a b:UInt8):cy cs a (jF cs a b)=true/\cy cs b (jF cs a b)=true/\ ∀c,cy cs a c=true->cy cs b c=true->cy cs (jF cs a b) c=true:=by
 unfold jF
 by_cases h1:cy cs a b=true
 .rw[if_pos h1];exact⟨h1,iE _,λc _ h=>h⟩
 rw[if_neg h1]
 by_cases h2:cy cs b a=true
 .rw[if_pos h2];exact⟨iE _,h2,λc h _=>h⟩
 rw[if_neg h2];have top: ∀x:UInt8,cy cs x 45=true:=λx=>aY.2 (Or.inr (Or.inl rfl))
 by_cases h3:isC a=false\/isC b=false
 .rw[if_pos h3];refine⟨top _,top _,λc ha hb=> ?_⟩;rw[aY]at ha hb
  have hc:c.toNat=45:=by
   obtain rfl|ha| ⟨p1,p2⟩ | ⟨p1,p2,p3⟩:=ha
   .exact absurd (aY.2 hb) h2
   .exact ha
   .obtain rfl|hb| ⟨q1,q2⟩ | ⟨q1,q2,q3⟩:=hb
    .exact absurd (aY.2 (Or.inr (Or.inr (Or.inl ⟨p1,p2⟩)))) h1
    .exact hb
    .exact absurd (aY.2 (Or.inl (bS (by omega)))) h1
    .exact absurd (aY.2 (Or.inr (Or.inr (Or.inl ⟨q1,p2⟩)))) h1
   .obtain rfl|hb| ⟨q1,q2⟩ | ⟨q1,q2,q3⟩:=hb
    .exact absurd (aY.2 (Or.inr (Or.inr (Or.inr ⟨p1,p2,p3⟩)))) h1
    .exact hb
    .exact absurd (aY.2 (Or.inr (Or.inr (Or.inl ⟨p1,q2⟩)))) h2
    .obtain h3|h3:=h3
     .rw[h3]at p1;cases p1
     .rw[h3]at q1;cases q1
  exact aY.2 (Or.inr (Or.inl hc))
 rw[if_neg h3];have ha:isC a=true:=by have:=not_or.1 h3;simpa using this.1
 have hb:isC b=true:=by have:=not_or.1 h3;simpa using this.2
 have r1:=jJ hw ha;have r2:=jJ hw hb;have hp:=dW hw (p:=kl a) r1.1
 have base: ∀c,cy cs a c=true->cy cs b c=true->c.toNat=45\/(isC c=true/\bF cs 5 (cX cs (kl a)) (kl c)=true/\bF cs 5 (kl b) (kl c)=true):=by
  intro c a1 a0;rw[aY]at a1 a0;obtain rfl|a1| ⟨p1,p2⟩ | ⟨p1,p2,p3⟩:=a1
  .exact absurd (aY.2 a0) h2
  .exact Or.inl a1
  .rw[cI]at ha;omega
  .obtain rfl|a0| ⟨q1,q2⟩ | ⟨q1,q2,q3⟩:=a0
   .exact absurd (aY.2 (Or.inr (Or.inr (Or.inr ⟨p1,p2,p3⟩)))) h1
   .exact Or.inl a0
   .rw[cI]at hb;omega
   .obtain h|h:=(fE hw r1.1 (by omega)).1 p3
    .have:a=c:=by
      apply bS
      unfold kl at h;omega
     subst this;exact absurd (aY.2 (Or.inr (Or.inr (Or.inr ⟨q1,q2,q3⟩)))) h2
    .exact Or.inr ⟨p2,h,q3⟩
 obtain⟨e,a2⟩ | ⟨q,hq,e,e1,e2,e3⟩:=vC hw (f:=5) (p:=cX cs (kl a)) (y:=kl b) (by omega) (by omega) (by omega)
 .rw[show lQ cs ((b.toNat:Int)-65) 5 (cX cs ((a.toNat:Int)-65))=45 from e];refine⟨top _,top _,λc a1 a0=> ?_⟩;obtain h| ⟨_,h4,h5⟩:=base c a1 a0
  .exact aY.2 (Or.inr (Or.inl h))
  .rw[a2 _ h4]at h5;cases h5
 .rw[show lQ cs ((b.toNat:Int)-65) 5 (cX cs ((a.toNat:Int)-65))=UInt8.ofNat (65+q)from e];obtain⟨l1,l2⟩:=vD hw hq;refine⟨?_,?_,λc a1 a0=> ?_⟩
  .rw[aY,l2];exact Or.inr (Or.inr (Or.inr ⟨ha,l1,(fE hw r1.1 (by omega)).2 (Or.inr e1)⟩))
  .rw[aY,l2];exact Or.inr (Or.inr (Or.inr ⟨hb,l1,e2⟩))
  .obtain h| ⟨h3,h4,h5⟩:=base c a1 a0
   .exact aY.2 (Or.inr (Or.inl h))
   .rw[aY,l2];exact Or.inr (Or.inr (Or.inr ⟨l1,h3,e3 _ h4 h5⟩))
end
namespace Sp
def WfF (cs:List Cls):Prop:= ∀(j:Nat) (c:Cls),cs[j]?=some c->0<=c.par->bJ cs c.par.toNat<+:c.fields
theorem mM {cs ds:List Cls} {k:Nat} (h:k<cs.length):bJ (cs++ds) k=bJ cs k:=by
 simp[bJ,fN h]
theorem tu {s:ByteArray}: ∀{k:Nat} {cs:List Cls} {i:Nat} {r:List Cls} {j:Nat},WfC cs->WfF cs->ep s k cs i= .ok (r,j)->WfF r:=by
 intro k
 induction k with
 |zero=>
  intro cs i r j hw hf h;unfold ep at h
  split at h
  .cases h;exact hf
  .cases h
 |succ k ih=>
  intro cs i r j hw hf h;unfold ep at h
  split at h
  .cases h;exact hf
  .split at h
   .cases h
   .rename_i p l hp
    split at h
    .cases h
    .rename_i own m ho
     refine ih (mB hw hp ho) ?_ h;intro j c hj hc;obtain hl|hl:=Nat.lt_or_ge j cs.length
     .rw[fN hl]at hj;have h1:=hw j c hj;rw[mM (by omega)];exact hf j c hj hc
     .rw[List.getElem?_append_right hl]at hj
      cases hk:j-cs.length with
      |succ q=>rw[hk]at hj;simp at hj
      |zero=>
       rw[hk]at hj;simp at hj;subst hj;simp only at hc⊢;have h1:=(rz hp).2
       have h2:p.toNat<cs.length:=by
        obtain h1| ⟨_,h1,h2⟩:=h1
        .omega
        .simp[aN]at h1;omega
       rw[mM h2,inh,if_neg (by omega)];exact List.prefix_append _ _
theorem mN {cs:List Cls} (hw:WfC cs) (hf:WfF cs): ∀(k:Nat) {x y:Int},x<=k->k<=4->x<cs.length->bF cs 5 x y=true->bJ cs y.toNat<+:bJ cs x.toNat:=by
 intro k
 induction k with
 |zero=>
  intro x y hx hk hl h;have:=vB hw 0 hx hk h;have:x=y:=by omega
  subst this;exact List.prefix_refl _
 |succ k ih=>
  intro x y hx hk hl h;have h0:=vB hw (k+1) hx hk h;obtain h1|h1:=(fE hw (by omega) (by omega)).1 h
  .subst h1;exact List.prefix_refl _
  .have hp:=dW hw (p:=x) (by omega)
   have a0:0<=cX cs x:=by
    obtain h'|h':=Int.lt_or_le (cX cs x) 0
    .rw[kQ hw h']at h1;cases h1
    .exact h'
   refine(ih (by omega) (by omega) (by omega) h1).trans ?_;obtain⟨c,hc⟩: ∃c,cs[x.toNat]?=some c:=⟨_,aH (by omega)⟩;have e1:cX cs x=c.par:=by simp[cX,hc]
   have e2:bJ cs x.toNat=c.fields:=by simp[bJ,hc]
   rw[e1,e2];exact hf _ _ hc (by omega)
def WfL (gs:List Sig) (b:Bod):Prop:=0<=b.cls-> ∃t,b.locals=UInt8.ofNat (65+b.cls.toNat)::gY gs b.meth.toNat::t
theorem Ab {s:ByteArray} {cs:List Cls} {gs:List Sig}: ∀{k:Nat} {bs:List Bod} {i:Nat} {r:List Bod} {j:Nat},(∀b∈bs,WfL gs b/\0<=b.cls)->lL s cs gs k bs i= .ok (r,j)-> ∀b∈r,WfL gs b/\0<=b.cls:=by
 intro k
 induction k with
 |zero=>
  intro bs i r j hw h;unfold lL at h
  split at h
  .cases h;exact hw
  .cases h
 |succ k ih=>
  intro bs i r j hw h;unfold lL at h
  split at h
  .cases h;exact hw
  .split at h
   .cases h
   .split at h
    .cases h
    .split at h
     .cases h
     .split at h
      .cases h
      .split at h
       .cases h
       .refine ih (λb hb=> ?_) h;obtain hb|hb:=List.mem_append.1 hb
        .exact hw b hb
        .rw[List.mem_singleton]at hb;subst hb;exact⟨λ_=>⟨_,rfl⟩,by simp⟩
structure WfE (im:Img):Prop where
 fld:WfF im.zz
 loc: ∀b∈im.zq,WfL im.zj b
 main: ∃bs m,im.zq=bs++ [m]/\m.cls= -1/\ ∀b∈bs,0<=b.cls
theorem xV {s:ByteArray} {im:Img} (h:jf s= .ok im):WfE im:=by
 unfold jf at h
 split at h
 .cases h
 .rename_i cs l1 h1
  split at h
  .cases h
  .rename_i gs l2 h2
   split at h
   .cases h
   .rename_i bs l3 h3
    split at h
    .cases h
    .rename_i t l4 h4
     split at h
     .cases h
     .rename_i is l5 h5
      split at h
      .cases h
      .cases h
       have hb:=Ab (λb hb=>by simp at hb) h3;refine⟨tu (λj c h=>by simp at h) (λj c h=>by simp at h) h1,λb hbm=> ?_,⟨bs,_,rfl,rfl,λb hb'=>(hb b hb').2⟩⟩;simp at hbm;obtain hbm|rfl:=hbm
       .exact(hb b hbm).1
       .exact λh=>absurd h (by simp)
theorem xW {s:ByteArray} {im:Img} (h:fY s= .ok im):WfE im/\(∀b∈im.zq,∀x∈b.code,x.op.toNat=99->0<=cY im.zz im.zq x.b 5 x.a):=by
 unfold fY at h
 split at h
 .cases h
 .split at h
  .cases h
  .rename_i im' hr
   split at h
   .cases h
   .rename_i hn
    cases h
    refine⟨xV hr,λb hb x hx ho=> ?_⟩;rw[List.findSome?_eq_none_iff]at hn;have h1:=hn b hb;unfold unl at h1;rw[Option.map_eq_none_iff,List.find?_eq_none]at h1;have h2:=h1 x hx;simp[dp,ho]at h2;exact h2
structure Fm where
 q:Nat
 pc:Nat
 zx:List V
 loc:List V
structure Mv where
 fr:List Fm
 ev:Ev
inductive SR where
 |go (m:Mv)
 |bad (e:Nat) (out:L_)
 |fin (v:V) (out:L_)
inductive Rch (hp:List Ob) (roots:Nat->Prop):Nat->Prop where
 |root (k:Nat) (h:roots k):Rch hp roots k
 |field (j k:Nat) (ob:Ob) (h:Rch hp roots j) (hj:hp[j]?=some ob) (hk:V.o k∈ob.fs):Rch hp roots k
noncomputable def md (hp:List Ob) (roots:Nat->Prop):Nat:=
 (((List.range hp.length).filter (λk=> @decide (Rch hp roots k) (Classical.propDecidable _))).map (λk=>1+((hp[k]?.map (·.fs)).getD []).length)).sum
def fB (vs:List V) (ts:L_):List V:=((vs.zip ts).filter (λp=>decide (p.2.toNat≠45))).map (·.1)
abbrev de:=List (List St)
def jg (T:de) (q pc:Nat):St:=((T[q]?.getD [])[pc]?).getD none
def rI (T:de) (f:Fm):List V:=match jg T f.q f.pc with
 |some (s,l)=>fB f.zx s++fB f.loc l
 |none=> []
def Ac (T:de) (fr:List Fm) (k:Nat):Prop:= ∃f∈fr,V.o k∈rI T f
section
variable (im:Img) (inp:ByteArray) (T:de) (cells:Nat)
def xf (q pc:Nat):Option Ins:=(im.zq[q]?).bind λb=>b.code[pc]?
def Fm.on (f:Fm) (zx:List V):Fm:={f with pc:=f.pc+1,zx:=zx}
def bE (s:List V):V:=s.getD (s.length-1) .z
def fk (s:List V):V:=s.getD (s.length-2) .z
def bB (s:List V):List V:=s.take (s.length-1)
def dC (s:List V):List V:=s.take (s.length-2)
noncomputable def stepX (x:Ins) (f:Fm) (rest:List Fm) (s:Ev):SR:=
 if x.op.toNat=107 then .go ⟨f.on (f.zx++ [.i x.b])::rest,s⟩
 else if x.op.toNat=114 then .go ⟨f.on (f.zx++ [.i (jH inp s.read)])::rest,{s with read:=s.read+1}⟩
 else if x.op.toNat=119 then .go ⟨f.on (bB f.zx)::rest,s.say (bE f.zx).N⟩
 else if x.op.toNat=122 then .go ⟨f.on (f.zx++ [.z])::rest,s⟩
 else if x.op.toNat=100 then .go ⟨f.on (bB f.zx)::rest,s⟩
 else if x.op.toNat=108 then .go ⟨f.on (f.zx++ [f.loc.getD x.b .z])::rest,s⟩
 else if x.op.toNat=115 then .go ⟨{f.on (bB f.zx)with loc:=f.loc.set x.b (bE f.zx)}::rest,s⟩
 else if x.op.toNat=106 then .go ⟨{f with pc:=x.b}::rest,s⟩
 else if x.op.toNat=102 then .go ⟨{f with zx:=bB f.zx,pc:=if(bE f.zx).N=0 then x.b else f.pc+1}::rest,s⟩
 else if x.op.toNat=101 then .go ⟨f.on (dC f.zx++ [if fk f.zx=bE f.zx then .i 1 else .i 0])::rest,s⟩
 else if x.op.toNat=110 then
  if md s.heap (Ac T (f::rest))+1+(cr im.zz x.a).length>cells then .bad 9 s.out
  else .go ⟨f.on (f.zx++ [.o s.heap.length])::rest,{s with heap:=s.heap++ [⟨x.a,cr im.zz x.a⟩]}⟩
 else if x.op.toNat=120 then
  match bE f.zx with
  | .o k=>if bF im.zz 5 (s.cls k) x.a=true then .go ⟨f.on f.zx::rest,s⟩else .bad 8 s.out
  |_=> .go ⟨f.on f.zx::rest,s⟩
 else if x.op.toNat=103 then
  match bE f.zx with
  | .o k=> .go ⟨f.on (bB f.zx++ [(s.fs k).getD x.b .z])::rest,s⟩
  |_=> .bad 6 s.out
 else if x.op.toNat=112 then
  match fk f.zx with
  | .o k=> .go ⟨f.on (dC f.zx)::rest,s.put k x.b (bE f.zx)⟩
  |_=> .bad 6 s.out
 else if x.op.toNat=99 then
  match fk f.zx with
  | .o k=>if 12<=rest.length+1 then .bad 10 s.out
   else .go ⟨⟨(cY im.zz im.zq x.b 5 (s.cls k)).toNat,0,[],bn (ck im x k s) [.o k,bE f.zx]⟩::{f with zx:=dC f.zx}::rest,s⟩
  |_=> .bad 6 s.out
 else if x.op.toNat=116 then
  match rest with
  | []=> .fin (bE f.zx) s.out
  |g::r=> .go ⟨g.on (g.zx++ [bE f.zx])::r,s⟩
 else match eP x.op.toNat (fk f.zx).N (bE f.zx).N [] s with
  | .bad e o=> .bad e o
  | .ok v _ s=> .go ⟨f.on (dC f.zx++ [v])::rest,s⟩
noncomputable def jh (m:Mv):SR:=match m.fr with
 | []=> .bad 0 m.ev.out
 |f::rest=>match xf im f.q f.pc with
  |none=> .bad 0 m.ev.out
  |some x=>stepX im inp T cells x f rest m.ev
noncomputable def tw:Nat->Mv->L_×Int×Nat
 |0,m=>(m.ev.out,0,5)
 |n+1,m=>match jh im inp T cells m with
  | .go m=>tw n m
  | .bad e o=>(o,0,e)
  | .fin v o=>(o,v.N,0)
noncomputable def vE (fuel:Nat):L_×Int×Nat:=
 tw im inp T cells fuel ⟨[⟨im.zq.length-1,0,[],bn (im.zq.getD (im.zq.length-1) ⟨-1,-1,[],[]⟩) []⟩],⟨[],0,0,[]⟩⟩
end
end Sp
section
open Go Go.RowKit Sp Go.ChangeShapes Go.WideShapes Go.ChangeAt
theorem Da:ownKnob prog.godebug=none:=by kernel_rfl
theorem BQ:laidOutB prog=true:=by kernel_rfl
theorem BR:prog.cellsOf 27=7:=by kernel_rfl
theorem rJ:prog.cellsOf 3=1:=by kernel_rfl
theorem vF:prog.cellsOf 9=1:=by kernel_rfl
theorem Ad: ∃f0 f1 f2 f3 f4 f5 f6:Field,prog.underlying 27=some (.struct #[f0,f1,f2,f3,f4,f5,f6])/\
  (f0.type=3/\f0.offset=0)/\(f1.type=3/\f1.offset=1)/\(f2.type=3/\f2.offset=2)/\(f3.type=3/\f3.offset=3)/\
  (f4.type=9/\f4.offset=4)/\(f5.type=9/\f5.offset=5)/\(f6.type=9/\f6.offset=6):=
 ⟨_,_,_,_,_,_,_,Tryz.underlying27,⟨rfl,rfl⟩,⟨rfl,rfl⟩,⟨rfl,rfl⟩,⟨rfl,rfl⟩,⟨rfl,rfl⟩,⟨rfl,rfl⟩,⟨rfl,rfl⟩⟩
theorem BT {w:World} {a:Addr} {v:Value} (h:w.cell? a=some v):a.block<w.heap.size:=by
 obtain h1|h1:=Nat.lt_or_ge a.block w.heap.size
 .exact h1
 .unfold World.cell? at h;rw[Array.getElem?_eq_none h1]at h;simp at h
section
variable {H:Type} {enc:TypeId×Value->H} {W:World}
/--What the reading of a script gives:it lies in memory as the walk wants it. -/
theorem tz {v:Value} {d:DataW H} {ps:List MemPlace} (h:DataW.Trod enc prog W 0 (λ_=>true) true 22 v d ps) (hv:v.cells.toList=[v]):
  ∃ao n cap,v= .slice ao n cap/\CX W ao n:=by
 obtain⟨fuel,h⟩:=h;obtain⟨h0,_⟩ | ⟨a,len,cap,m,n,D,Pl,h0,hb,hl,hm,a3,_,hx⟩:=Deep.open_slice Tryz.underlying22 h
 .rw[hv]at h0;refine⟨none,0,0,by simpa using h0,by unfold maxLen;omega,λh=>absurd h (by omega)⟩
 .rw[hv]at h0;refine⟨some a,len,cap,by simpa using h0,by omega,λhp=> ?_⟩;have a5:len<=m:=by rw[a3];split<;>omega
  obtain⟨f0,f1,f2,f3,f4,f5,f6,hu,⟨t0,o0⟩,⟨t1,o1⟩,⟨t2,o2⟩,⟨t3,o3⟩,⟨t4,o4⟩,⟨t5,o5⟩,⟨t6,o6⟩⟩:=Ad
  have each: ∀k,k<len-> ∃cs,(∀i,i<7->W.cell? (a.add (k*7+i))=cs[i]?)/\ ∃kd x y z s t u,cs=[Value.int .i64 kd,.int .i64 x,.int .i64 y,.int .i64 z,.string s,.string t,.string u]/\s.size<=maxLen:=by
   intro k hk;obtain⟨cs',h1,h2⟩:=hx k (by omega);rw[BR]at h1;obtain⟨_,a2,a0⟩:=World.cells?_some h1;obtain⟨xs,k',_,a6,_,a4,hf⟩:=DataW.trod_struct hu h2;refine⟨cs',λi hi=>by rw[<-a0 i hi,Deep.add_add],?_⟩
   match cs',a2 with
   | [v0,v1,v2,v3,v4,v5,v6],_=>
   match xs,a4 with
   | [y0,y1,y2,y3,y4,y5,y6],_=>
   have g0:=hf 0 f0 rfl;have g1:=hf 1 f1 rfl;have g2:=hf 2 f2 rfl;have g3:=hf 3 f3 rfl;have g4:=hf 4 f4 rfl;have g5:=hf 5 f5 rfl;have g6:=hf 6 f6 rfl;rw[t0,o0,rJ]at g0;rw[t1,o1,rJ]at g1;rw[t2,o2,rJ]at g2;rw[t3,o3,rJ]at g3;rw[t4,o4,vF]at g4;rw[t5,o5,vF]at g5;rw[t6,o6,vF]at g6;obtain⟨i0,e0,_⟩:=DataW.trod_int Tryz.underlying3 g0;obtain⟨i1,e1,_⟩:=DataW.trod_int Tryz.underlying3 g1;obtain⟨i2,e2,_⟩:=DataW.trod_int Tryz.underlying3 g2;obtain⟨i3,e3,_⟩:=DataW.trod_int Tryz.underlying3 g3;obtain⟨i4,e4,_,l4⟩:=DataW.trod_string Tryz.underlying9 g4;obtain⟨i5,e5,_⟩:=DataW.trod_string Tryz.underlying9 g5;obtain⟨i6,e6,_⟩:=DataW.trod_string Tryz.underlying9 g6
   simp at e0 e1 e2 e3 e4 e5 e6;subst e0 e1 e2 e3 e4 e5 e6;exact⟨i0,i1,i2,i3,i4,i5,i6,rfl,l4⟩
  obtain⟨b,off,spot⟩:=a;obtain⟨cs,hc,kd,x,y,z,s,t,u,rfl,_⟩:=each 0 hp;have c0:=hc 0 (by omega);have c1:W.cell? ⟨b,off,spot⟩=some (.int .i64 kd):=c0;have a1:spot=none:=World.cell?_spot c1;subst a1;refine⟨b,off,rfl,BT c1,λk hk=> ?_⟩;obtain⟨cs,hc,kd,x,y,z,s,t,u,rfl,hs⟩:=each k hk;simp only[WideShapes.add_plain]at hc;exact⟨kd,s,⟨x,y,z,t,u,hc 0 (by omega),hc 1 (by omega),hc 2 (by omega),hc 3 (by omega),hc 4 (by omega),hc 5 (by omega),hc 6 (by omega)⟩,hs⟩
end
theorem E3 {a b:Bool} (h1:a=true) (h2:b=true):(a&&b)=true:=by rw[h1,h2];rfl
def rK:DataW Unit->Array Value
 | .agg ps=>(ps.map λ| .lit (.int k n)=>Value.int k n|_=>Value.bool false).toArray
 |_=>#[]
def fZ (d:DataW Unit):Obj->Obj
 | .cells _ t frozen=> .cells (rK d) t frozen
 |o=>o
end
end Go.Proofs.YtpfkkmacakjmbaaGreatDoor
