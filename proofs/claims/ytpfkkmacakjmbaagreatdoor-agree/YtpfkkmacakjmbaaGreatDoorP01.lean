import Derived.Test.YtpfkkmacakjmbaaGreatDoorP00
import Derived.Lib.ItoaNum
import Derived.IntWalk
import Derived.Test.YtpfkkmacakjmbaaGreatDoorCards
import Derived.Test.YtpfkkmacakjmbaaGreatDoorTie
import Derived.ProofKit
import Derived.OpenShut
import Derived.Carry
import Derived.Deep.Slices
import Derived.Deep.DeepHandedRow
import Derived.Lib.LaidTab
set_option maxRecDepth 100000
set_option maxHeartbeats 6400000
set_option linter.all false
namespace Go.Proofs.YtpfkkmacakjmbaaGreatDoor
open Proofs.Tryz
section
open Go Go.RowKit Sp
attribute [local go_sem ↓] eF eG
theorem ip (e:Int) (w:World):
  Calls prog 21 #[.int .i64 e] w λen w'=>en= .returned (.int .i64 e)/\w'=w:=by
 go_in
 go_wp2_with fail
 all_goals go_ret
 all_goals exact⟨rfl,rfl⟩
structure F6 (w:World) (b o:Nat) (kd:Int) (s:ByteArray):Prop where
 rest: ∃(x y z:Int) (t u:ByteArray),w.cell? ⟨b,o,none⟩=some (.int .i64 kd)/\w.cell? ⟨b,o+1,none⟩=some (.int .i64 x)/\w.cell? ⟨b,o+2,none⟩=some (.int .i64 y)/\w.cell? ⟨b,o+3,none⟩=some (.int .i64 z)/\
  w.cell? ⟨b,o+4,none⟩=some (.string s)/\w.cell? ⟨b,o+5,none⟩=some (.string t)/\w.cell? ⟨b,o+6,none⟩=some (.string u)
 short:s.size<=maxLen
def D7 (w:World) (ao:Option Addr) (n:Nat):Prop:=
 n<=maxLen/\(0<n-> ∃b o,ao=some ⟨b,o,none⟩/\b<w.heap.size/\ ∀k,k<n-> ∃kd s,F6 w b (o+k*7) kd s)
end
namespace Sp
def cB (cs:List Cls):Nat->Int->Int->Bool
 |0,_,_=>false
 |f+1,x,y=>if x<0 then false else if x=y then true else cB cs f (dG cs x) y
def isC (c:UInt8):Bool:=decide (65<=c.toNat)&&decide (c.toNat<=68)
def bR (cs:List Cls) (a b:UInt8):Bool:=
 if a.toNat=b.toNat\/b.toNat=45 then true else
 if isC b=false then false else
 if a.toNat=122 then true else
 if isC a=false then false else cB cs 5 ((a.toNat:Int)-65) ((b.toNat:Int)-65)
def mC (cs:List Cls) (y:Int):Nat->Int->UInt8
 |0,_=>45
 |f+1,p=>if p<0 then 45 else if cB cs 5 y p=true then UInt8.ofNat (65+p.toNat)else mC cs y f (dG cs p)
def gr (cs:List Cls) (a b:UInt8):UInt8:=
 if bR cs a b=true then b else
 if bR cs b a=true then a else
 if isC a=false\/isC b=false then 45 else
 mC cs ((b.toNat:Int)-65) 5 (dG cs ((a.toNat:Int)-65))
def okT (n:Nat) (c:UInt8):Bool:=cY n c||decide (c.toNat=122)||decide (c.toNat=45)
theorem ff {n:Nat} {c:UInt8}:okT n c=true↔c.toNat=105\/(65<=c.toNat/\c.toNat<65+n)\/c.toNat=122\/c.toNat=45:=by
 simp[okT,cY,aQ,or_assoc]
theorem cz {c:UInt8}:isC c=true↔65<=c.toNat/\c.toNat<=68:=by simp[isC]
def isR (c:UInt8):Bool:=decide (c.toNat=122)||isC c
def dz (cs:List Cls) (stack want:L_):Bool:=
 decide (want.length<=stack.length)&&(List.range want.length).all λi=>bR cs (stack.getD (stack.length-want.length+i) 0) (want.getD i 0)
def dc (cs:List Cls) (a k:Nat):UInt8:=((cs[a]?.map (·.fields)).getD []).getD k 0
def cE (a:Nat):UInt8:=UInt8.ofNat (65+a)
def jv (gs:List Sig) (k:Nat):UInt8:=(gs[k]?.map (·.arg)).getD 0
def gI (gs:List Sig) (k:Nat):UInt8:=(gs[k]?.map (·.ret)).getD 0
def arith (c:Nat):Bool:=[43,45,42,47,60,61].contains c
def bv (cs:List Cls) (gs:List Sig) (b:Bod) (x:Ins):L_:=
 if x.op.toNat=119\/x.op.toNat=102 then [105]else
 if arith x.op.toNat=true then [105,105]else
 if x.op.toNat=103 then [cE x.a]else
 if x.op.toNat=112 then [cE x.a,dc cs x.a x.b]else
 if x.op.toNat=99 then [cE x.a,jv gs x.b]else
 if x.op.toNat=116 then(if b.cls<0 then [105]else [gI gs b.meth.toNat])else []
def bu (cs:List Cls) (gs:List Sig) (x:Ins):L_:=
 if x.op.toNat=107\/x.op.toNat=114\/arith x.op.toNat=true\/x.op.toNat=101 then [105]else
 if x.op.toNat=122 then [122]else
 if x.op.toNat=110\/x.op.toNat=120 then [cE x.a]else
 if x.op.toNat=103 then [dc cs x.a x.b]else
 if x.op.toNat=99 then [gI gs x.b]else []
def eg (c:Nat) (stack:L_):Option Nat:=
 if c=101 then
  if stack.length<2\/isR (stack.getD (stack.length-1) 0)=false\/isR (stack.getD (stack.length-2) 0)=false then none else some 2
 else if stack.length<1\/(c=120/\isR (stack.getD (stack.length-1) 0)=false)then none else some 1
def cX (cs:List Cls) (gs:List Sig) (b:Bod) (x:Ins) (stack zy:L_):Option (L_×L_):=
 if x.op.toNat=115\/x.op.toNat=100\/x.op.toNat=101\/x.op.toNat=120 then
  match eg x.op.toNat stack with
  |none=>none
  |some k=>some (stack.take (stack.length-k)++bu cs gs x,if x.op.toNat=115 then zy.set x.b (stack.getD (stack.length-1) 0)else zy)
 else if x.op.toNat=108 then
  if(zy.getD x.b 0).toNat=45 then none else some (stack++ [zy.getD x.b 0],zy)
 else if dz cs stack (bv cs gs b x)=true then some (stack.take (stack.length-(bv cs gs b x).length)++bu cs gs x,zy)
 else none
def dW (cs:List Cls) (a b:L_):L_:=List.zipWith (gr cs) a b
theorem rP {cs:List Cls} {st wa:L_} (hl:wa.length<=st.length) (h: ∀k,k<wa.length->bR cs (st.getD (st.length-wa.length+k) 0) (wa.getD k 0)=true):dz cs st wa=true:=by
 unfold dz;rw[dl];refine⟨by simpa using hl,?_⟩;rw[List.all_eq_true];intro k a;exact h k (by simpa using a)
theorem rQ {cs:List Cls} {a b:L_} (h:a.length=b.length):(dW cs a b).length=a.length:=by
 simp[dW,h]
def dJ (x:Ins) (i:Nat):Int×Int:=
 if x.op.toNat=116 then(-1,-1)else
 if x.op.toNat=106 then((x.b:Int),-1)else
 if x.op.toNat=102 then((i:Int)+1,(x.b:Int))else((i:Int)+1,-1)
def iJ (cs:List Cls) (a:Option (L_×L_)) (sb lb:L_):Option (L_×L_):=match a with
 |none=>some (sb,lb)
 |some (sa,la)=>if sa.length=sb.length then some (dW cs sa sb,dW cs la lb)else none
def okS (n nl:Nat) (s l:L_):Prop:=(∀c∈s,okT n c=true)/\(∀c∈l,okT n c=true)/\l.length=nl/\s.length<=100
def cH (cs:List Cls) (T:List (Option (L_×L_))×Bool×Bool) (j:Int) (sb lb:L_):List (Option (L_×L_))×Bool×Bool:=
 if T.2.2=true\/j<0 then T else
 if(T.1.length:Int)<=j then(T.1,T.2.1,true)else
 match iJ cs (T.1.getD j.toNat none) sb lb with
 |none=>(T.1,T.2.1,true)
 |some m=>if some m=T.1.getD j.toNat none then T else(T.1.set j.toNat (some m),true,false)
theorem oZ {cs:List Cls} (hw:WfC cs) {x:Int} (hx:x<cs.length) (h0:0<=x): -1<=dG cs x/\dG cs x<cs.length:=by
 unfold dG;obtain⟨n,rfl⟩:=Int.eq_ofNat_of_zero_le h0;have hn:n<cs.length:=by omega
 rw[ny,aM hn];have:=hw n _ (aM hn);simp;omega
theorem uk {cs:List Cls} {y:Int} (hn:cs.length<=4) (hw:WfC cs): ∀{f:Nat} {p:Int},-1<=p->p<cs.length->okT cs.length (mC cs y f p)=true:=by
 intro f
 induction f with
 |zero=>intro p _ _;simp[mC,okT]
 |succ f ih=>
  intro p b a;unfold mC
  split
  .simp[okT]
  .split
   .rw[ff]
    right;left
    rw[UInt8.toNat_ofNat'];omega
   .have:=oZ hw a (by omega);exact ih this.1 this.2
theorem um {cs:List Cls} {a b:UInt8} (hn:cs.length<=4) (hw:WfC cs) (ha:okT cs.length a=true) (hb:okT cs.length b=true):okT cs.length (gr cs a b)=true:=by
 unfold gr
 split
 .exact hb
 .split
  .exact ha
  .split
   .simp[okT]
   .rename_i h
    have e:=ff.1 ha
    have c:isC a=true:=by cases h':isC a with
     |true=>rfl
     |false=>exact absurd (Or.inl h') h
    have:=cz.1 c;have d:=oZ hw (x:=(a.toNat:Int)-65) (by omega) (by omega);exact uk hn hw d.1 d.2
theorem zh (cs:List Cls) (gs:List Sig) (x:Ins):(bu cs gs x).length<=1:=by
 unfold bu
 repeat' split
 all_goals simp
def dm:List Nat:=[48,49,50,51,52,53,54,55,56,57,114,119,108,115,43,45,42,47,60,61,101,110,122,103,112,99,120,44,105,111]
def aY (c:UInt8):Bool:=decide (48<=c.toNat)&&decide (c.toNat<=57)
def ay (c:UInt8):Nat:=
 if c.toNat=105 then 3
 else if [43,45,42,47,60,61,101,112,99,44,111].contains c.toNat=true then 2
 else if [115,103,120,119].contains c.toNat=true then 1
 else 0
def my (s:ByteArray) (cs:List Cls) (ns nl i:Nat):Except Nat (Ins×Nat):=
 if dm.contains (pk s i).toNat=true then
  match dL s cs ns nl (pk s i).toNat (i+1)with
  | .ok (a,b,j)=> .ok (⟨pk s i,a,if aY (pk s i)=true then(pk s i).toNat-48 else b,i⟩,j)
  | .error j=> .error j
 else .error i
def eU (s:ByteArray) (cs:List Cls) (ns nl:Nat):Nat->List Ins->Nat->Nat->Except Nat (List Ins×Nat)
 |_,t,0,i=> .ok (t,i)
 |0,_,_+1,i=> .error i
 |k+1,t,m+1,i=>
  match my s cs ns nl i with
  | .error j=> .error j
  | .ok (x,j)=>eU s cs ns nl k (t++ [x]) (m+ay x.op) j
theorem lD {s:ByteArray} {cs:List Cls} {ns nl k:Nat} {t:List Ins} {i:Nat}:eU s cs ns nl k t 0 i= .ok (t,i):=by cases k<;>rfl
theorem wN {s:ByteArray} {cs:List Cls} {ns nl:Nat}: ∀{k:Nat} {t:List Ins} {m i:Nat} {r:List Ins} {j:Nat},eU s cs ns nl k t m i= .ok (r,j)->t.length<=r.length/\r.length<=t.length+k/\ ∃u,r=t++u:=by
 intro k
 induction k with
 |zero=>
  intro t m i r j h
  cases m with
  |zero=>cases h;exact⟨by omega,by omega,[],by simp⟩
  |succ m=>cases h
 |succ k ih=>
  intro t m i r j h
  cases m with
  |zero=>cases h;exact⟨by omega,by omega,[],by simp⟩
  |succ m=>
   simp only[eU]at h
   cases hx:my s cs ns nl i with
   |error l=>rw[hx]at h;cases h
   |ok y=>
    rw[hx]at h;obtain⟨a,b,u,c⟩:=ih h;simp at a b;exact⟨by omega,by omega,y.1::u,by rw[c];simp⟩
theorem En {s:ByteArray} {cs:List Cls} {ns nl:Nat}: ∀{k:Nat} {t:List Ins} {m n i:Nat},eU s cs ns nl k t (m+n) i=match eU s cs ns nl k t m i with
  | .error j=> .error j
  | .ok (r,j)=>eU s cs ns nl (k-(r.length-t.length)) r n j:=by
 intro k
 induction k with
 |zero=>
  intro t m n i
  cases m with
  |zero=>simp[lD]
  |succ m=>rw[show m+1+n=(m+n)+1 from by omega];rfl
 |succ k ih=>
  intro t m n i
  cases m with
  |zero=>simp[lD]
  |succ m=>
   rw[show m+1+n=(m+n)+1 from by omega];simp only[eU]
   cases hx:my s cs ns nl i with
   |error l=>rfl
   |ok y=>
    obtain⟨x,j⟩:=y;simp only;rw[show m+n+ay x.op=(m+ay x.op)+n from by omega,ih]
    cases hr:eU s cs ns nl k (t++ [x]) (m+ay x.op) j with
    |error l=>rfl
    |ok q=>
     obtain⟨r,l⟩:=q;have:=wN hr;simp only
     have e:k-(r.length-(t++ [x]).length)=k+1-(r.length-t.length):=by
      have:=this.1;simp at this⊢;omega
     rw[e]
def mD (s:ByteArray) (cs:List Cls) (ns nl i:Nat):Except Nat (List Ins×Nat):=
 match eU s cs ns nl 24 [] 1 i with
 | .error j=> .error j
 | .ok (t,j)=>if(pk s j).toNat=46 then .ok (t,j+1)else .error j
def kG (s:ByteArray) (cs:List Cls) (gs:List Sig):Nat->List Bod->Nat->Except Nat (List Bod×Nat)
 |0,bs,i=>if(pk s i).toNat=59 then .ok (bs,i+1)else .error i
 |k+1,bs,i=>if(pk s i).toNat=59 then .ok (bs,i+1)else
  match jb s cs.length i with
  | .error j=> .error j
  | .ok (x,j)=>
   match gE s gs.length j with
   | .error l=> .error l
   | .ok (m,l)=>
    if(lA bs x m).isSome=true then .error j else
    match tys s cs.length 58 3 [] l with
    | .error p=> .error p
    | .ok (t,p)=>
     match mD s cs gs.length (t.length+2) p with
     | .error q=> .error q
     | .ok (is,q)=>kG s cs gs k (bs++ [⟨x,m,UInt8.ofNat (65+x)::jc gs m::t,is⟩]) q
def gJ (s:ByteArray):Except Nat Img:=
 match fw s 4 [] 0 with
 | .error i=> .error i
 | .ok (cs,i)=>
  match jU s cs.length 3 [] i with
  | .error j=> .error j
  | .ok (gs,j)=>
   match kG s cs gs 6 [] j with
   | .error l=> .error l
   | .ok (bs,l)=>
    match tys s cs.length 58 3 [] l with
    | .error p=> .error p
    | .ok (t,p)=>
     match mD s cs gs.length t.length p with
     | .error q=> .error q
     | .ok (is,q)=>if q<s.size then .error q else .ok ⟨cs,gs,bs++ [⟨-1,-1,t,is⟩]⟩
def sk:Nat->List Ins->Nat
 |0,_=>0
 |_+1,[]=>0
 |m+1,x::t=>1+sk (m+ay x.op) t
def full:Nat->List Ins->Prop
 |0,[]=>True
 |0,_::_=>False
 |_+1,[]=>False
 |m+1,x::t=>full (m+ay x.op) t
def bk (t:List Ins) (i:Nat):Nat:=i+sk 1 (t.drop i)
theorem pJ {t:List Ins}:sk 0 t=0:=by cases t<;>rfl
theorem Fz: ∀{t:List Ins} {m:Nat},sk m t<=t.length:=by
 intro t
 induction t with
 |nil=>intro m;cases m<;>simp[sk]
 |cons x t ih=>
  intro m
  cases m with
  |zero=>simp[sk]
  |succ m=>have:=ih (m:=m+ay x.op);simp[sk];omega
theorem Eo: ∀{t:List Ins} {m n:Nat},sk (m+n) t=sk m t+sk n (t.drop (sk m t)):=by
 intro t
 induction t with
 |nil=>intro m n;cases m<;>cases n<;>simp[sk]
 |cons x t ih=>
  intro m n
  cases m with
  |zero=>simp[pJ]
  |succ m=>
   rw[show m+1+n=(m+n)+1 from by omega];simp only[sk];rw[show m+n+ay x.op=(m+ay x.op)+n from by omega,ih,show 1+sk (m+ay x.op) t=sk (m+ay x.op) t+1 from by omega,List.drop_succ_cons];omega
theorem sR: ∀{u:List Ins} {m:Nat} {v:List Ins},full m u->sk m (u++v)=u.length:=by
 intro u
 induction u with
 |nil=>
  intro m v h
  cases m with
  |zero=>simp[pJ]
  |succ m=>cases h
 |cons x u ih=>
  intro m v h
  cases m with
  |zero=>cases h
  |succ m=>simp only[List.cons_append,sk,ie];rw[ih h];omega
theorem un {s:ByteArray} {cs:List Cls} {ns nl:Nat}: ∀{k:Nat} {t:List Ins} {m i:Nat} {r:List Ins} {j:Nat},eU s cs ns nl k t m i= .ok (r,j)-> ∃u,r=t++u/\full m u/\u.length<=k:=by
 intro k
 induction k with
 |zero=>
  intro t m i r j h
  cases m with
  |zero=>cases h;exact⟨[],by simp,trivial,by simp⟩
  |succ m=>cases h
 |succ k ih=>
  intro t m i r j h
  cases m with
  |zero=>cases h;exact⟨[],by simp,trivial,by simp⟩
  |succ m=>
   simp only[eU]at h
   cases hx:my s cs ns nl i with
   |error l=>rw[hx]at h;cases h
   |ok y=>
    rw[hx]at h;obtain⟨u,a,b,c⟩:=ih h;exact⟨y.1::u,by rw[a];simp,b,by simp;omega⟩
def cK (cs:List Cls) (gs:List Sig) (lo:L_) (x:Ins):L_:=
 if arith x.op.toNat=true then [105,105]
 else if x.op.toNat=119 then [105]
 else if x.op.toNat=115 then [lo.getD x.b 0]
 else if x.op.toNat=103 then [cE x.a]
 else if x.op.toNat=112 then [cE x.a,dc cs x.a x.b]
 else if x.op.toNat=99 then [cE x.a,jv gs x.b]
 else []
def bE (cs:List Cls) (gs:List Sig) (lo:L_) (x:Ins):UInt8:=
 if x.op.toNat=122 then 122
 else if x.op.toNat=108 then lo.getD x.b 0
 else if x.op.toNat=110 then cE x.a
 else if x.op.toNat=103 then dc cs x.a x.b
 else if x.op.toNat=99 then gI gs x.b
 else 105
def ba (cs:List Cls) (gs:List Sig) (lo:L_) (x:Ins) (ts:L_):Option UInt8:=
 if cK cs gs lo x≠ []/\dz cs ts (cK cs gs lo x)=false then none
 else if x.op.toNat=101 then(if isR (ts.getD 0 0)=true/\isR (ts.getD 1 0)=true then some 105 else none)
 else if x.op.toNat=120 then(if isR (ts.getD 0 0)=true then some (cE x.a)else none)
 else if x.op.toNat=44 then some (ts.getD 1 0)
 else if x.op.toNat=105 then(if(ts.getD 0 0).toNat=105/\(gr cs (ts.getD 1 0) (ts.getD 2 0)).toNat≠45 then some (gr cs (ts.getD 1 0) (ts.getD 2 0))else none)
 else if x.op.toNat=111 then(if(ts.getD 0 0).toNat=105 then some 105 else none)
 else some (bE cs gs lo x)
def bO (t:List Ins) (g:Nat->Option UInt8):Nat->Nat->Option L_
 |0,_=>some []
 |n+1,k=>match g k with
  |none=>none
  |some c=>(bO t g n (bk t k)).map (c:: ·)
def cA (cs:List Cls) (gs:List Sig) (lo:L_) (t:List Ins):Nat->Nat->Option UInt8
 |0,_=>none
 |f+1,i=>match t[i]? with
  |none=>none
  |some x=>match bO t (cA cs gs lo t f) (ay x.op) (i+1)with
   |none=>none
   |some ts=>ba cs gs lo x ts
def dM (s:ByteArray):Except (Nat×Nat) Img:=
 if 400<s.size then .error (1,0)else
 match gJ s with
 | .error j=> .error (2,j)
 | .ok im=>match im.zj.findSome? (λb=>unl im.zq im.zj b.code)with
  |some p=> .error (3,p)
  |none=> .ok im
def fa (im:Img) (b:Bod):Bool:=match cA im.zq im.zx b.zy b.code b.code.length 0 with
 |none=>false
 |some c=>bR im.zq c (if b.cls<0 then 105 else gI im.zx b.meth.toNat)
def dN (s:ByteArray):Nat×Nat:=match dM s with
 | .error e=>e
 | .ok im=>match im.zj.findIdx? (λb=> !fa im b)with
  |some k=>(4,k)
  |none=>(0,0)
inductive V where
 |i (n:Int)
 |z
 |o (k:Nat)
 deriving DecidableEq
def V.K:V->Nat
 | .i _=>105
 | .z=>122
 | .o _=>111
def V.N:V->Int
 | .i n=>n
 | .z=>0
 | .o k=>k
structure Ob where
 cls:Nat
 fs:List V
structure Ev where
 heap:List Ob
 read:Nat
 left:Nat
 out:L_
inductive R where
 |bad (e:Nat) (out:L_)
 |ok (v:V) (l:List V) (s:Ev)
def du (t:UInt8):V:=if t.toNat=105 then .i 0 else .z
def bF (cs:List Cls) (a:Nat):L_:=(cs[a]?.map (·.fields)).getD []
def de (cs:List Cls) (a:Nat):List V:=(bF cs a).map du
def w32 (n:Int):Int:=RowKit.wrap32 n
def wO (op:Nat) (a b:Int):Int:=
 if op=43 then w32 (a+b)
 else if op=45 then w32 (a-b)
 else if op=42 then w32 (a*b)
 else if op=60 then(if a<b then 1 else 0)
 else(if a=b then 1 else 0)
def jA (s:ByteArray) (i:Nat):Int:=if h:i<s.size then(s[i].toNat:Int)else-1
def Ev.cls (s:Ev) (k:Nat):Nat:=(s.heap[k]?.map (·.cls)).getD 0
def Ev.fs (s:Ev) (k:Nat):List V:=(s.heap[k]?.map (·.fs)).getD []
def Ev.put (s:Ev) (k j:Nat) (v:V):Ev:={s with heap:=s.heap.set k ⟨s.cls k,(s.fs k).set j v⟩}
def Ev.say (s:Ev) (n:Int):Ev:={s with out:=s.out++Lib.itoa n++ [32]}
section
variable (im:Img) (inp:ByteArray)
def dX (x:Ins) (l:List V) (s:Ev):R:=
 if x.op.toNat=114 then .ok (.i (jA inp s.read)) l {s with read:=s.read+1}
 else if x.op.toNat=122 then .ok .z l s
 else if x.op.toNat=108 then .ok (l.getD x.b .z) l s
 else if x.op.toNat=110 then .ok (.o s.heap.length) l {s with heap:=s.heap++ [⟨x.a,de im.zq x.a⟩]}
 else .ok (.i x.b) l s
def eV (x:Ins) (v:V) (l:List V) (s:Ev):R:=
 if x.op.toNat=115 then .ok (.i 0) (l.set x.b v) s
 else if x.op.toNat=119 then .ok (.i 0) l (s.say v.N)
 else if x.op.toNat=120 then
  match v with
  | .o k=>if cB im.zq 5 (s.cls k) x.a=true then .ok v l s else .bad 8 s.out
  |_=> .ok v l s
 else
  match v with
  | .o k=> .ok ((s.fs k).getD x.b .z) l s
  |_=> .bad 6 s.out
def dO (op:Nat) (a b:Int) (l:List V) (s:Ev):R:=
 if op=47 then(if b=0 then .bad 7 s.out else .ok (.i (w32 (Int.tdiv a b))) l s)else .ok (.i (wO op a b)) l s
def aZ (x:Ins) (k:Nat) (s:Ev):Bod:=im.zj.getD (cO im.zq im.zj x.b 5 (s.cls k)).toNat ⟨-1,-1,[],[]⟩
def aO (b:Bod) (vs:List V):List V:=vs++(b.zy.drop vs.length).map du
def eP (call:Bod->List V->R) (d:Nat) (x:Ins) (u v:V) (l:List V) (s:Ev):R:=
 if x.op.toNat=44 then .ok v l s
 else if x.op.toNat=101 then .ok (if u=v then .i 1 else .i 0) l s
 else if x.op.toNat=99 then
  match u with
  | .o k=>if 12<=d then .bad 10 s.out else
   match call (aZ im x k s) (aO (aZ im x k s) [u,v])with
   | .bad e o=> .bad e o
   | .ok r _ s=> .ok r l s
  |_=> .bad 6 s.out
 else if x.op.toNat=112 then
  match u with
  | .o k=> .ok (.i 0) l (s.put k x.b v)
  |_=> .bad 6 s.out
 else dO x.op.toNat u.N v.N l s
def fP (c d:List V->Ev->R):Nat->List V->Ev->R
 |0,_,s=> .bad 5 s.out
 |k+1,l,s=>match c l s with
  | .bad e o=> .bad e o
  | .ok v l s=>if v.N=0 then .ok (.i 0) l s else
   match d l s with
   | .bad e o=> .bad e o
   | .ok _ l s=>fP c d k l s
def bC:Nat->Bod->Nat->Nat->List V->Ev->R
 |0,_,_,_,_,s=> .bad 5 s.out
 |f+1,b,d,i,l,s=>
  if s.left=0 then .bad 5 s.out else
  match b.code[i]? with
  |none=> .bad 0 s.out
  |some x=>
   if ay x.op=0 then dX im inp x l {s with left:=s.left-1}else
   if x.op.toNat=111 then fP (bC f b d (i+1)) (bC f b d (bk b.code (i+1))) f l {s with left:=s.left-1}else
   match bC f b d (i+1) l {s with left:=s.left-1}with
   | .bad e o=> .bad e o
   | .ok u l s=>
    if x.op.toNat=105 then bC f b d (if u.N=0 then bk b.code (bk b.code (i+1))else bk b.code (i+1)) l s
    else if ay x.op=1 then eV im x u l s
    else match bC f b d (bk b.code (i+1)) l s with
     | .bad e o=> .bad e o
     | .ok v l s=>eP im (λb' l'=>bC f b' (d+1) 0 l' s) d x u v l s
def iM (fuel:Nat):L_×Int×Nat:=
 let b:=im.zj.getD (im.zj.length-1) ⟨-1,-1,[],[]⟩
 match bC im inp fuel b 1 0 (aO b []) ⟨[],0,fuel,[]⟩with
 | .bad e o=>(o,0,e)
 | .ok v _ s=>(s.out,v.N,0)
end
def iy (s inp:ByteArray) (fuel:Int):L_×Int×Nat:=
 if 40<inp.size\/fuel<0\/4000<fuel then([],0,1)else
 match dM s with
 | .error e=>([],0,e.1)
 | .ok im=>if(dN s).1=0 then iM im inp fuel.toNat else([],0,(dN s).1)
end Sp
section
open Go Sp
abbrev St:=Option (L_×L_)
abbrev Tn:=List St×Bool×Bool
def g9 (im:Img) (bd:Bod) (T:Tn) (i:Nat):Option Tn:=
 match bd.code[i]?,T.1.getD i none with
 |some x,some (s,l)=>
  match cX im.zq im.zx bd x s l with
  |none=>none
  |some (s',l')=>some (cH im.zq (cH im.zq T (dJ x i).1 s' l') (dJ x i).2 s' l')
 |_,_=>some T
def fe (im:Img) (bd:Bod):Nat->Nat->Tn->Option Tn
 |0,_,T=>some T
 |f+1,i,T=>if T.2.2=true then some T else
  match g9 im bd T i with
  |none=>none
  |some T'=>fe im bd f (i+1) T'
def fY (im:Img) (bd:Bod):Nat->Tn->Option (List St)
 |0,T=>some T.1
 |f+1,T=>if T.2.1=false then some T.1 else
  match fe im bd bd.code.length 0 (T.1,false,T.2.2)with
  |none=>none
  |some T'=>if T'.2.2=true then none else fY im bd f T'
def di (bd:Bod):List St:=(List.replicate bd.code.length none).set 0 (some ([],bd.zy))
def dP (im:Img) (bd:Bod):Option (List St):=fY im bd 80000 (di bd,true,false)
def kH (tb:List St):Nat:=tb.countP Option.isSome
def okZ (nc nl:Nat) (s l:L_):Prop:=(∀c∈s,okT nc c=true)/\(∀c∈l,okT nc c=true)/\l.length=nl
def wfT (nc nl n:Nat) (tb:List St):Prop:=tb.length=n/\ ∀(k:Nat) s l,tb[k]?=some (some (s,l))->okZ nc nl s l/\s.length<kH tb
theorem pK (tb:List St):kH tb<=tb.length:=List.countP_le_length
theorem wfT.okS {nc nl n:Nat} {tb:List St} (h:wfT nc nl n tb) (hn:n<=100) (k:Nat) (s l:L_) (hk:tb[k]?=some (some (s,l))):okS nc nl s l:=by
 obtain⟨⟨a,b,c⟩,d⟩:=h.2 k s l hk;have:=pK tb;have:=h.1;exact⟨a,b,c,by omega⟩
theorem uo {tb:List St} {j:Nat} {m:L_×L_} (hj:j<tb.length):kH (tb.set j (some m))=kH tb+(if(tb[j]'hj).isSome then 0 else 1):=by
 unfold kH;rw[List.countP_set hj];have:tb[j].isSome=true->0<tb.countP Option.isSome:=λh=>List.countP_pos_iff.2 ⟨_,cS hj,h⟩
 by_cases h:tb[j].isSome=true
 .have:=this h;simp[h];omega
 .simp[h]
theorem rR {cs:List Cls} (hn:cs.length<=4) (hw:WfC cs): ∀{a b:L_},(∀c∈a,okT cs.length c=true)->(∀c∈b,okT cs.length c=true)-> ∀c∈dW cs a b,okT cs.length c=true:=by
 intro a
 induction a with
 |nil=>intro b _ _ c hc;simp[dW]at hc
 |cons x a ih=>
  intro b ha hb c hc
  cases b with
  |nil=>simp[dW]at hc
  |cons y b=>
   simp only[dW,List.zipWith_cons_cons,List.mem_cons]at hc;obtain rfl|hc:=hc
   .exact um hn hw (ha _ (by simp)) (hb _ (by simp))
   .exact ih (λc h=>ha c (by simp[h])) (λc h=>hb c (by simp[h])) c hc
theorem kk {cs:List Cls} {nl n:Nat} (hn:cs.length<=4) (hw:WfC cs) {T:Tn} {j:Int} {sb lb:L_} (h:wfT cs.length nl n T.1) (hz:okZ cs.length nl sb lb) (hl:sb.length<=kH T.1):
  wfT cs.length nl n (cH cs T j sb lb).1/\kH T.1<=kH (cH cs T j sb lb).1:=by
 unfold cH
 split
 .exact⟨h,bG _⟩
 split
 .exact⟨h,bG _⟩
 rename_i h1 h2
 have a:j.toNat<T.1.length:=by omega
 split
 .exact⟨h,bG _⟩
 rename_i m hm
 split
 .exact⟨h,bG _⟩
 have c:=uo (m:=m) a;simp only;refine⟨⟨by rw[List.length_set];exact h.1,?_⟩,by omega⟩;intro k s l b;rw[List.getElem?_set]at b
 split at b
 .rename_i hjk
  subst hjk
  try rw[if_pos a]at b
  injection b with b;injection b with b;subst b;have d:T.1.getD j.toNat none=T.1[j.toNat]:=by simp[List.getD,a]
  rw[d]at hm
  cases ho:T.1[j.toNat]with
  |none=>
   rw[ho]at hm c;simp[iJ]at hm;obtain⟨rfl,rfl⟩:=hm;simp at c;exact⟨hz,by omega⟩
  |some p=>
   obtain⟨sa,la⟩:=p;rw[ho]at hm c;simp only[iJ]at hm
   split at hm
   .rename_i hlen
    injection hm with hm;injection hm with h3 h4;subst h3 h4;have ha:=h.2 j.toNat sa la (by rw[aM a,ho]);simp at c;refine⟨⟨rR hn hw ha.1.1 hz.1,rR hn hw ha.1.2.1 hz.2.1,?_⟩,?_⟩
    .rw[rQ (by rw[ha.1.2.2,hz.2.2])];exact ha.1.2.2
    .rw[rQ hlen];omega
   .cases hm
 .have:=h.2 k s l b;exact⟨this.1,by omega⟩
theorem mf (cs:List Cls) (T:Tn) (j:Int) (sb lb:L_):(cH cs T j sb lb).1.length=T.1.length:=by
 unfold cH
 split
 .rfl
 split
 .rfl
 split
 .rfl
 split
 .rfl
 .simp
theorem kI {n:Nat} {c:UInt8} (h:cY n c=true):okT n c=true:=by simp[okT,h]
theorem uq {im:Img} (hW:WfI im) {x:Ins} {nl:Nat} (hx:WfX im.zq im.zx.length nl x): ∀c∈bu im.zq im.zx x,okT im.zq.length c=true:=by
 intro c hc
 have hcl: ∀a,a<im.zq.length->okT im.zq.length (cE a)=true:=by
  intro a ha;have:=hW.nc;rw[ff]
  right;left
  have e:(cE a).toNat=65+a:=by simp[cE];omega
  omega
 unfold bu at hc
 split at hc
 .simp at hc;subst hc;simp[ff]
 split at hc
 .simp at hc;subst hc;simp[ff]
 split at hc
 .rename_i h
  simp at hc;subst hc;exact hcl _ (hx.cls (by omega))
 split at hc
 .rename_i h
  simp at hc;subst hc;have e:=hx.cls (by omega);have d:=hx.fld (by omega);obtain⟨cl,hcl⟩: ∃cl,im.zq[x.a]?=some cl:=⟨_,aM e⟩;unfold dc;rw[hcl];simp only[db,hcl]at d;simp only[Option.map_some,Option.getD_some]at d⊢;have i:=hW.cls x.a cl hcl
  have hm:cl.fields.getD x.b 0∈cl.fields:=by
   have:cl.fields.getD x.b 0=cl.fields[x.b]'(by simpa using d):=by simp[List.getD,d]
   rw[this];exact cS _
  exact kI (gn (by omega) (i.2.2.2 _ hm))
 split at hc
 .rename_i h
  simp at hc;subst hc;have d:=hx.sig h;obtain⟨g,f⟩: ∃g,im.zx[x.b]?=some g:=⟨_,aM d⟩;unfold gI;rw[f];simp only[Option.map_some,Option.getD_some];exact kI (hW.sig g (a9 f)).2
 .simp at hc
theorem nz {n:Nat} {l:L_} (h: ∀c∈l,okT n c=true) {k:Nat} (hk:k<l.length):okT n (l.getD k 0)=true:=by
 have:l.getD k 0=l[k]:=by simp[List.getD,hk]
 rw[this];exact h _ (cS _)
theorem nB {im:Img} (hW:WfI im) {bd:Bod} {x:Ins} (hx:WfX im.zq im.zx.length bd.zy.length x) {s l s' l':L_} (hz:okZ im.zq.length bd.zy.length s l) (h:cX im.zq im.zx bd x s l=some (s',l')):
  okZ im.zq.length bd.zy.length s' l'/\s'.length<=s.length+1:=by
 have hp:=uq hW hx;have a:=zh im.zq im.zx x
 have key: ∀k,(∀c∈s.take k++bu im.zq im.zx x,okT im.zq.length c=true)/\(s.take k++bu im.zq im.zx x).length<=s.length+1:=by
  intro k
  constructor
  .intro c hc;rw[List.mem_append]at hc;obtain hc|hc:=hc
   .exact hz.1 c (List.mem_of_mem_take hc)
   .exact hp c hc
  .simp;omega
 unfold cX at h
 split at h
 .split at h
  .cases h
  .rename_i k hk
   injection h with h;injection h with h1 h2;subst h1;refine⟨⟨(key _).1,?_,?_⟩,(key _).2⟩
   .intro c hc;rw[<-h2]at hc
    split at hc
    .rename_i h115
     have:=List.mem_or_eq_of_mem_set hc;obtain h|h:=this
     .exact hz.2.1 c h
     .rw[h]
      apply nz hz.1
      rw[h115]at hk;unfold eg at hk;simp at hk;have:=List.length_pos_iff.2 hk.1;omega
    .exact hz.2.1 c hc
   .rw[<-h2]
    split
    .rw[List.length_set];exact hz.2.2
    .exact hz.2.2
 split at h
 .split at h
  .cases h
  .rename_i h108 _
   injection h with h;injection h with h1 h2;subst h1 h2;refine⟨⟨?_,hz.2⟩,by simp⟩;intro c hc;rw[List.mem_append]at hc;obtain hc|hc:=hc
   .exact hz.1 c hc
   .simp at hc;subst hc;have:=nz hz.2.1 (k:=x.b) (by rw[hz.2.2];exact hx.loc (Or.inl h108));simpa[List.getD]using this
 split at h
 .injection h with h;injection h with h1 h2;subst h1 h2;exact⟨⟨(key _).1,hz.2⟩,(key _).2⟩
 .cases h
theorem ur {im:Img} (hW:WfI im) {bd:Bod} (hb:WfB im.zq im.zx bd) {n:Nat} {T T':Tn} {i:Nat} (h:wfT im.zq.length bd.zy.length n T.1) (hs:g9 im bd T i=some T'):
  wfT im.zq.length bd.zy.length n T'.1:=by
 unfold g9 at hs
 split at hs
 .rename_i x s l hx hst
  split at hs
  .cases hs
  .rename_i s' l' he
   injection hs with hs;subst hs
   have c:T.1[i]?=some (some (s,l)):=by
    simp only[List.getD]at hst
    cases hh:T.1[i]? with
    |none=>rw[hh]at hst;cases hst
    |some o=>rw[hh]at hst;simp at hst;rw[hst]
   have d:=h.2 i s l c;have a:=nB hW (hb.code x (a9 hx)) d.1 he;have b:=kk hW.nc hW.cls (j:=(dJ x i).1) h a.1 (by omega);exact(kk hW.nc hW.cls (j:=(dJ x i).2) b.1 a.1 (by omega)).1
 .injection hs with hs;subst hs;exact h
theorem iz {im:Img} {bd:Bod} (hb:WfB im.zq im.zx bd):wfT im.zq.length bd.zy.length bd.code.length (di bd):=by
 unfold di;refine⟨by simp,?_⟩;intro k s l a;have b:0<(List.replicate bd.code.length (none:St)).length:=by simpa using hb.len.1
 have d:=uo (m:=([],bd.zy)) b;rw[List.getElem?_set]at a
 split at a
 .rename_i hk0
  subst hk0
  try rw[if_pos b]at a
  injection a with a;injection a with a;injection a with h1 h2;subst h1 h2;refine⟨⟨by simp,λc hc=>kI (hb.loc.2 c hc),rfl⟩,?_⟩;rw[d];simp
 .rw[List.getElem?_replicate]at a
  split at a<;>simp at a
def mQ (im:Img) (bd:Bod) (f:Nat):Option Tn->Option (List St)
 |none=>none
 |some T'=>if T'.2.2=true then none else fY im bd f T'
theorem pX (im:Img) (bd:Bod) (f:Nat) (tb:List St):fY im bd (f+1) (tb,true,false)=mQ im bd f (fe im bd bd.code.length 0 (tb,false,false)):=by
 unfold fY;rw[if_neg (by simp)];simp only
 cases fe im bd bd.code.length 0 (tb,false,false)<;>rfl
theorem kJ (im:Img) (bd:Bod) (f:Nat) (tb:List St) (b:Bool):fY im bd f (tb,false,b)=some tb:=by
 cases f<;>simp[fY]
theorem pY (im:Img) (bd:Bod) (f i:Nat) (T:Tn) (h:T.2.2=true):fe im bd f i T=some T:=by
 cases f
 .rfl
 .simp only[fe,if_pos h]
theorem ut {im:Img} {bd:Bod} {f i:Nat} {T:Tn} (h:T.2.2=false) (hs:g9 im bd T i=none):fe im bd (f+1) i T=none:=by
 simp[fe,h,hs]
theorem o7 {im:Img} {bd:Bod} {f i:Nat} {T T':Tn} (h:T.2.2=false) (hs:g9 im bd T i=some T'):fe im bd (f+1) i T=fe im bd f (i+1) T':=by
 simp[fe,h,hs]
theorem wP {im:Img} {bd:Bod} {T:Tn} {i:Nat} {x:Ins} {s l:L_} (hx:bd.code[i]?=some x) (h:T.1[i]?=some (some (s,l))) (he:cX im.zq im.zx bd x s l=none):g9 im bd T i=none:=by
 unfold g9;rw[bM,h,hx];simp[he]
theorem pZ {im:Img} {bd:Bod} {T:Tn} {i:Nat} {x:Ins} {s l s' l':L_} (hx:bd.code[i]?=some x) (h:T.1[i]?=some (some (s,l))) (he:cX im.zq im.zx bd x s l=some (s',l')):
  g9 im bd T i=some (cH im.zq (cH im.zq T (dJ x i).1 s' l') (dJ x i).2 s' l'):=by
 unfold g9;rw[bM,h,hx];simp[he]
theorem rS {im:Img} (hW:WfI im) {bd:Bod} (hb:WfB im.zq im.zx bd) {n:Nat}: ∀{f i:Nat} {T T':Tn},wfT im.zq.length bd.zy.length n T.1->fe im bd f i T=some T'->wfT im.zq.length bd.zy.length n T'.1:=by
 intro f
 induction f with
 |zero=>intro i T T' h a;simp[fe]at a;subst a;exact h
 |succ f ih=>
  intro i T T' h a;simp only[fe]at a
  split at a
  .injection a with a;subst a;exact h
  .split at a
   .cases a
   .rename_i T1 h1
    exact ih (ur hW hb h h1) a
theorem wQ {im:Img} (hW:WfI im) {bd:Bod} (hb:WfB im.zq im.zx bd) {n:Nat}: ∀{f:Nat} {T:Tn} {tb:List St},wfT im.zq.length bd.zy.length n T.1->fY im bd f T=some tb->wfT im.zq.length bd.zy.length n tb:=by
 intro f
 induction f with
 |zero=>intro T tb h a;simp[fY]at a;subst a;exact h
 |succ f ih=>
  intro T tb h a;simp only[fY]at a
  split at a
  .injection a with a;subst a;exact h
  .split at a
   .cases a
   .rename_i T1 h1
    split at a
    .cases a
    .exact ih (rS hW hb (by exact h) h1) a
theorem oH {im:Img} (hW:WfI im) {bd:Bod} (hb:WfB im.zq im.zx bd) {tb:List St} (h:dP im bd=some tb):wfT im.zq.length bd.zy.length bd.code.length tb:=
 wQ hW hb (iz hb) h
end
namespace Sp
structure Fm where
 q:Nat
 pc:Nat
 zv:List V
 loc:List V
structure Mv where
 fr:List Fm
 ev:Ev
inductive SR where
 |go (m:Mv)
 |bad (e:Nat) (out:L_)
 |fin (v:V) (out:L_)
inductive Rch (hp:List Ob) (roots:Nat->Prop):Nat->Prop where
 |root (k:Nat) (h:roots k):Rch hp roots k
 |field (j k:Nat) (ob:Ob) (h:Rch hp roots j) (hj:hp[j]?=some ob) (hk:V.o k∈ob.fs):Rch hp roots k
noncomputable def fk (hp:List Ob) (roots:Nat->Prop):Nat:=
 (((List.range hp.length).filter (λk=> @decide (Rch hp roots k) (Classical.propDecidable _))).map (λk=>1+((hp[k]?.map (·.fs)).getD []).length)).sum
def dY (vs:List V) (ts:L_):List V:=((vs.zip ts).filter (λp=>decide (p.2.toNat≠45))).map (·.1)
abbrev cG:=List (List St)
def jB (T:cG) (q pc:Nat):St:=((T[q]?.getD [])[pc]?).getD none
def jg (T:cG) (f:Fm):List V:=match jB T f.q f.pc with
 |some (s,l)=>dY f.zv s++dY f.loc l
 |none=> []
def jV (T:cG) (fr:List Fm) (k:Nat):Prop:= ∃f∈fr,V.o k∈jg T f
section
variable (im:Img) (inp:ByteArray) (T:cG) (cells:Nat)
def Bf (q pc:Nat):Option Ins:=(im.zj[q]?).bind λb=>b.code[pc]?
def Fm.on (f:Fm) (zv:List V):Fm:={f with pc:=f.pc+1,zv:=zv}
def dv (s:List V):V:=s.getD (s.length-1) .z
def kK (s:List V):V:=s.getD (s.length-2) .z
def dp (s:List V):List V:=s.take (s.length-1)
def iA (s:List V):List V:=s.take (s.length-2)
noncomputable def stepX (x:Ins) (f:Fm) (rest:List Fm) (s:Ev):SR:=
 if x.op.toNat=107 then .go ⟨f.on (f.zv++ [.i x.b])::rest,s⟩
 else if x.op.toNat=114 then .go ⟨f.on (f.zv++ [.i (jA inp s.read)])::rest,{s with read:=s.read+1}⟩
 else if x.op.toNat=119 then .go ⟨f.on (dp f.zv)::rest,s.say (dv f.zv).N⟩
 else if x.op.toNat=122 then .go ⟨f.on (f.zv++ [.z])::rest,s⟩
 else if x.op.toNat=100 then .go ⟨f.on (dp f.zv)::rest,s⟩
 else if x.op.toNat=108 then .go ⟨f.on (f.zv++ [f.loc.getD x.b .z])::rest,s⟩
 else if x.op.toNat=115 then .go ⟨{f.on (dp f.zv)with loc:=f.loc.set x.b (dv f.zv)}::rest,s⟩
 else if x.op.toNat=106 then .go ⟨{f with pc:=x.b}::rest,s⟩
 else if x.op.toNat=102 then .go ⟨{f with zv:=dp f.zv,pc:=if(dv f.zv).N=0 then x.b else f.pc+1}::rest,s⟩
 else if x.op.toNat=101 then .go ⟨f.on (iA f.zv++ [if kK f.zv=dv f.zv then .i 1 else .i 0])::rest,s⟩
 else if x.op.toNat=110 then
  if fk s.heap (jV T (f::rest))+1+(de im.zq x.a).length>cells then .bad 9 s.out
  else .go ⟨f.on (f.zv++ [.o s.heap.length])::rest,{s with heap:=s.heap++ [⟨x.a,de im.zq x.a⟩]}⟩
 else if x.op.toNat=120 then
  match dv f.zv with
  | .o k=>if cB im.zq 5 (s.cls k) x.a=true then .go ⟨f.on f.zv::rest,s⟩else .bad 8 s.out
  |_=> .go ⟨f.on f.zv::rest,s⟩
 else if x.op.toNat=103 then
  match dv f.zv with
  | .o k=> .go ⟨f.on (dp f.zv++ [(s.fs k).getD x.b .z])::rest,s⟩
  |_=> .bad 6 s.out
 else if x.op.toNat=112 then
  match kK f.zv with
  | .o k=> .go ⟨f.on (iA f.zv)::rest,s.put k x.b (dv f.zv)⟩
  |_=> .bad 6 s.out
 else if x.op.toNat=99 then
  match kK f.zv with
  | .o k=>if 12<=rest.length+1 then .bad 10 s.out
   else .go ⟨⟨(cO im.zq im.zj x.b 5 (s.cls k)).toNat,0,[],aO (aZ im x k s) [.o k,dv f.zv]⟩::{f with zv:=iA f.zv}::rest,s⟩
  |_=> .bad 6 s.out
 else if x.op.toNat=116 then
  match rest with
  | []=> .fin (dv f.zv) s.out
  |g::r=> .go ⟨g.on (g.zv++ [dv f.zv])::r,s⟩
 else match dO x.op.toNat (kK f.zv).N (dv f.zv).N [] s with
  | .bad e o=> .bad e o
  | .ok v _ s=> .go ⟨f.on (iA f.zv++ [v])::rest,s⟩
noncomputable def fc (m:Mv):SR:=match m.fr with
 | []=> .bad 0 m.ev.out
 |f::rest=>match Bf im f.q f.pc with
  |none=> .bad 0 m.ev.out
  |some x=>stepX im inp T cells x f rest m.ev
noncomputable def kZ:Nat->Mv->L_×Int×Nat
 |0,m=>(m.ev.out,0,5)
 |n+1,m=>match fc im inp T cells m with
  | .go m=>kZ n m
  | .bad e o=>(o,0,e)
  | .fin v o=>(o,v.N,0)
noncomputable def iP (fuel:Nat):L_×Int×Nat:=
 kZ im inp T cells fuel ⟨[⟨im.zj.length-1,0,[],aO (im.zj.getD (im.zj.length-1) ⟨-1,-1,[],[]⟩) []⟩],⟨[],0,0,[]⟩⟩
end
structure WfN (cs:List Cls) (ns nl:Nat) (x:Ins):Prop where
 op:dm.contains x.op.toNat=true
 pos:x.pos<=2000
 cls:x.op.toNat=110\/x.op.toNat=120\/x.op.toNat=103\/x.op.toNat=112\/x.op.toNat=99->x.a<cs.length
 fld:x.op.toNat=103\/x.op.toNat=112->x.b<db cs x.a
 sig:x.op.toNat=99->x.b<ns
 loc:x.op.toNat=108\/x.op.toNat=115->x.b<nl
 num:x.b<100
structure lE (cs:List Cls) (gs:List Sig) (b:Bod):Prop where
 code: ∀x∈b.code,WfN cs gs.length b.zy.length x
 full:full 1 b.code
 len:b.code.length<=24
 loc:b.zy.length<=5/\ ∀t∈b.zy,cY cs.length t=true
 cls:(b.cls= -1/\b.meth= -1)\/(0<=b.cls/\b.cls<cs.length/\0<=b.meth/\b.meth<gs.length)
structure iQ (im:Img):Prop where
 cls:WfC im.zq
 nc:im.zq.length<=4
 ns:im.zx.length<=3
 sig: ∀g∈im.zx,cY im.zq.length g.arg=true/\cY im.zq.length g.ret=true
 bod: ∀b∈im.zj,lE im.zq im.zx b
 nb:im.zj.length<=7
theorem lF {c:UInt8} (h:aY c=true):48<=c.toNat/\c.toNat<=57:=by simpa[aY]using h
theorem C1 {s:ByteArray} {cs:List Cls} {ns nl i:Nat} {x:Ins} {j:Nat} (hs:s.size<=2000) (h:my s cs ns nl i= .ok (x,j)):WfN cs ns nl x:=by
 unfold my at h
 split at h
 .rename_i hl
  split at h
  .rename_i a b l ho
   cases h
   have hp:i<s.size:=yw (by
    obtain h|h:=Nat.eq_zero_or_pos (pk s i).toNat
    .rw[h]at hl;exact absurd hl (by decide)
    .exact h)
   by_cases hd:aY (pk s i)=true
   .have e:=lF hd;refine⟨hl,by simp;omega,?_,?_,?_,?_,?_⟩
    all_goals simp only[hd,if_true]
    all_goals (intros;omega)
   .refine⟨hl,by simp;omega,?_,?_,?_,?_,?_⟩
    all_goals simp only[hd,if_false,dx]
    all_goals
     unfold dL at ho
     repeat' split at ho
    all_goals first
     | (cases ho;done)
     |skip
    all_goals (intros;first|omega|skip)
    all_goals (cases ho;first|omega| (have:=fx ‹_›;omega) | (have:=kg ‹_›;omega) | (have c:=fx ‹gE s 10 (i+1)=_›;have d:=fx ‹gE s 10 _=Except.ok (_,j)›;omega))
  .cases h
 .cases h
theorem zi {s:ByteArray} {cs:List Cls} {ns nl:Nat} (hs:s.size<=2000): ∀{k:Nat} {t:List Ins} {m i:Nat} {r:List Ins} {j:Nat},(∀x∈t,WfN cs ns nl x)->eU s cs ns nl k t m i= .ok (r,j)-> ∀x∈r,WfN cs ns nl x:=by
 intro k
 induction k with
 |zero=>
  intro t m i r j a h
  cases m with
  |zero=>cases h;exact a
  |succ m=>cases h
 |succ k ih=>
  intro t m i r j a h
  cases m with
  |zero=>cases h;exact a
  |succ m=>
   simp only[eU]at h
   cases hx:my s cs ns nl i with
   |error l=>rw[hx]at h;cases h
   |ok y=>
    rw[hx]at h
    exact ih (λz hz=>by
     obtain hz|hz:=gH hz
     .exact a z hz
     .simp at hz;subst hz;exact C1 hs hx) h
theorem uu {s:ByteArray} {cs:List Cls} {ns nl i:Nat} {r:List Ins} {j:Nat} (hs:s.size<=2000) (h:mD s cs ns nl i= .ok (r,j)):(∀x∈r,WfN cs ns nl x)/\full 1 r/\r.length<=24:=by
 unfold mD at h
 split at h
 .cases h
 .rename_i t l hn
  split at h
  .cases h
   obtain⟨u,a,b,c⟩:=un hn;simp at a;subst a;exact⟨zi hs (by simp) hn,b,c⟩
  .cases h
theorem C2 {s:ByteArray} {cs:List Cls} {gs:List Sig} (hs:s.size<=2000) (hn:cs.length<=4) (hg: ∀g∈gs,cY cs.length g.arg=true/\cY cs.length g.ret=true): ∀{k:Nat} {bs:List Bod} {i:Nat} {r:List Bod} {j:Nat},(∀b∈bs,lE cs gs b)->kG s cs gs k bs i= .ok (r,j)->(∀b∈r,lE cs gs b)/\r.length<=k+bs.length:=by
 intro k
 induction k with
 |zero=>
  intro bs i r j d h;unfold kG at h
  split at h
  .cases h;exact⟨d,by omega⟩
  .cases h
 |succ k ih=>
  intro bs i r j d h;unfold kG at h
  split at h
  .cases h;exact⟨d,by omega⟩
  .split at h
   .cases h
   .rename_i x l1 h1
    split at h
    .cases h
    .rename_i m l2 h2
     split at h
     .cases h
     .split at h
      .cases h
      .rename_i t l3 h3
       split at h
       .cases h
       .rename_i is l4 h4
        have hx:=kg h1;have hm:=fx h2;have ht:=jx h3;have ha:=jy (by simp) h3;have hc:=uu hs h4
        have:=ih (λb hb=>by
         obtain hb|hb:=gH hb
         .exact d b hb
         .rw[List.mem_singleton]at hb;subst hb;refine⟨by simpa using hc.1,hc.2.1,hc.2.2,⟨by simp at ht⊢;omega,?_⟩,Or.inr ⟨by simp,by simp;omega,by simp,by simp;omega⟩⟩;intro c a;rw[List.mem_cons,List.mem_cons]at a;obtain rfl|rfl|a:=a
          .exact pV hx hn
          .unfold jc;rw[aM (by omega)];exact(hg _ (cS _)).1
          .exact ha c a) h
        simp at this;exact⟨this.1,by omega⟩
theorem uw {s:ByteArray} {im:Img} (hs:s.size<=2000) (h:gJ s= .ok im):iQ im:=by
 unfold gJ at h
 split at h
 .cases h
 .rename_i cs l1 h1
  split at h
  .cases h
  .rename_i gs l2 h2
   split at h
   .cases h
   .rename_i bs l3 h3
    split at h
    .cases h
    .rename_i t l4 h4
     split at h
     .cases h
     .rename_i is l5 h5
      split at h
      .cases h
      .cases h
       have hc:=sN h1;have e:=pT h2;have d:=uh (by simp) h2;have hb:=C2 hs hc.2 d (by simp) h3;have ht:=jx h4;have f:=jy (by simp) h4;have c:=uu hs h5;refine⟨hc.1,hc.2,by simpa using e,d,?_,by simp at hb⊢;omega⟩;intro b a;simp at a;obtain a|rfl:=a
       .exact hb.1 b a
       .exact⟨c.1,c.2.1,c.2.2,⟨by simp at ht⊢;omega,f⟩,Or.inl ⟨rfl,rfl⟩⟩
end Sp
section
open Go Sp
theorem dZ {cs:List Cls} (hw:WfC cs) {p:Int} (hp:0<=p):dG cs p<p/\ -1<=dG cs p:=by
 unfold dG
 cases h:cs[p.toNat]? with
 |none=>simp;omega
 |some c=>
  have:=hw _ _ h;simp;omega
theorem wR {cs:List Cls} (hw:WfC cs): ∀{f:Nat} {p y:Int},p<f->cB cs f p y=cB cs (f+1) p y:=by
 intro f
 induction f with
 |zero=>intro p y h;simp[cB];intro h';omega
 |succ f ih=>
  intro p y h;rw[cB,cB]
  by_cases h0:p<0
  .simp[h0]
  .simp only[h0,if_false]
   by_cases hy:p=y
   .simp[hy]
   .simp only[hy,if_false];have:=dZ hw (p:=p) (by omega);exact ih (by omega)
theorem f9 {cs:List Cls} (hw:WfC cs) {x y:Int} (h0:0<=x) (h1:x<=4):cB cs 5 x y=true↔x=y\/cB cs 5 (dG cs x) y=true:=by
 rw[cB];simp only[if_neg (show¬x<0 by omega)]
 by_cases hy:x=y
 .simp[hy]
 .simp only[hy,if_false,false_or];have:=dZ hw h0;rw[wR hw (by omega:dG cs x<(4:Nat))]
theorem lG {cs:List Cls} (hw:WfC cs) {x y:Int} (h:x<0):cB cs 5 x y=false:=by
 rw[cB];simp[h]
theorem p7 {cs:List Cls} (hw:WfC cs) {x:Int} (h:0<=x):cB cs 5 x x=true:=by
 rw[cB];simp;omega
theorem wT {cs:List Cls} (hw:WfC cs): ∀(k:Nat) {x y:Int},x<=k->k<=4->cB cs 5 x y=true->0<=y/\y<=x:=by
 intro k
 induction k with
 |zero=>
  intro x y hx a h
  by_cases h0:x<0
  .rw[lG hw h0]at h;cases h
  .obtain rfl|h:=(f9 hw (by omega) (by omega)).1 h
   .omega
   .have:=dZ hw (p:=x) (by omega);rw[lG hw (by omega)]at h;cases h
 |succ k ih=>
  intro x y hx a h
  by_cases h0:x<0
  .rw[lG hw h0]at h;cases h
  .obtain rfl|h:=(f9 hw (by omega) (by omega)).1 h
   .omega
   .have:=dZ hw (p:=x) (by omega);have:=ih (by omega) (by omega) h;omega
theorem yB {cs:List Cls} (hw:WfC cs): ∀(k:Nat) {x y z:Int},x<=k->k<=4->cB cs 5 x y=true->cB cs 5 y z=true->cB cs 5 x z=true:=by
 intro k
 induction k with
 |zero=>
  intro x y z hx a h h'
  by_cases h0:x<0
  .rw[lG hw h0]at h;cases h
  .obtain rfl|h:=(f9 hw (by omega) (by omega)).1 h
   .exact h'
   .have:=dZ hw (p:=x) (by omega);rw[lG hw (by omega)]at h;cases h
 |succ k ih=>
  intro x y z hx a h h'
  by_cases h0:x<0
  .rw[lG hw h0]at h;cases h
  .obtain rfl|h:=(f9 hw (by omega) (by omega)).1 h
   .exact h'
   .have:=dZ hw (p:=x) (by omega);exact(f9 hw (by omega) (by omega)).2 (Or.inr (ih (by omega) (by omega) h h'))
theorem wU {cs:List Cls} (hw:WfC cs): ∀{f:Nat} {p y:Int},p<f->f<=5->p<=3->
  (mC cs y f p=45/\ ∀q,cB cs 5 p q=true->cB cs 5 y q=false)\/
  ∃q:Nat,q<=3/\mC cs y f p=UInt8.ofNat (65+q)/\cB cs 5 p q=true/\cB cs 5 y q=true/\ ∀r,cB cs 5 p r=true->cB cs 5 y r=true->cB cs 5 q r=true:=by
 intro f
 induction f with
 |zero=>intro p y h _ _;left;exact⟨rfl,λq a=>by rw[lG hw (by omega)]at a;cases a⟩
 |succ f ih=>
  intro p y h j i;rw[mC]
  by_cases h0:p<0
  .left
   rw[if_pos h0];exact⟨rfl,λq a=>by rw[lG hw h0]at a;cases a⟩
  .rw[if_neg h0]
   by_cases hy:cB cs 5 y p=true
   .right
    rw[if_pos hy];refine⟨p.toNat,by omega,rfl,?_,?_,?_⟩
    .rw[Int.toNat_of_nonneg (by omega)];exact p7 hw (by omega)
    .rw[Int.toNat_of_nonneg (by omega)];exact hy
    .intro r b _;rw[Int.toNat_of_nonneg (by omega)];exact b
   .rw[if_neg hy];have:=dZ hw (p:=p) (by omega);obtain⟨c,d⟩ | ⟨q,a,c,d,e,g⟩:=ih (p:=dG cs p) (y:=y) (by omega) (by omega) (by omega)
    .left
     refine⟨c,λq a=> ?_⟩;obtain rfl|a:=(f9 hw (by omega) (by omega)).1 a
     .simpa using hy
     .exact d q a
    .right
     refine⟨q,a,c,(f9 hw (by omega) (by omega)).2 (Or.inr d),e,λr b hr'=> ?_⟩;obtain rfl|b:=(f9 hw (by omega) (by omega)).1 b
     .exact absurd hr' hy
     .exact g r b hr'
abbrev kl (c:UInt8):Int:=(c.toNat:Int)-65
theorem bc {cs:List Cls} {a b:UInt8}:bR cs a b=true↔a=b\/b.toNat=45\/(isC b=true/\a.toNat=122)\/(isC a=true/\isC b=true/\cB cs 5 (kl a) (kl b)=true):=by
 unfold bR;have e:a=b↔a.toNat=b.toNat:=UInt8.toNat_inj.symm;rw[e]
 by_cases h1:a.toNat=b.toNat\/b.toNat=45
 .simp only[if_pos h1,true_iff];rcases h1 with h|h<;>simp[h]
 .rw[if_neg h1];have c:=not_or.1 h1;simp only[c.1,c.2,false_or]
  by_cases hb:isC b=false
  .simp[hb]
  .have d:isC b=true:=by simpa using hb
   simp only[hb,if_false,d,true_and]
   by_cases ha:a.toNat=122
   .simp[ha]
   .simp only[ha,if_false,false_or]
    by_cases hc:isC a=false
    .simp[hc]
    .have f:isC a=true:=by simpa using hc
     simp[hc,f]
theorem gu {cs:List Cls} (a:UInt8):bR cs a a=true:=bc.2 (Or.inl rfl)
theorem km {cs:List Cls} (hw:WfC cs) {c:UInt8} (h:isC c=true):0<=kl c/\kl c<=3:=by
 rw[cz]at h;unfold kl;omega
theorem mR {cs:List Cls} (hw:WfC cs) {a b c:UInt8} (h:bR cs a b=true) (h':bR cs b c=true):bR cs a c=true:=by
 rw[bc]at h h';rw[bc];obtain rfl|h| ⟨h1,h2⟩ | ⟨h1,h2,h3⟩:=h
 .exact h'
 .obtain rfl|h'| ⟨h1,h2⟩ | ⟨h1,h2,h3⟩:=h'
  .exact Or.inr (Or.inl h)
  .exact Or.inr (Or.inl h')
  .omega
  .rw[cz]at h1;omega
 .obtain rfl|h'| ⟨h3,h4⟩ | ⟨h3,h4,h5⟩:=h'
  .exact Or.inr (Or.inr (Or.inl ⟨h1,h2⟩))
  .exact Or.inr (Or.inl h')
  .rw[cz]at h1;omega
  .exact Or.inr (Or.inr (Or.inl ⟨h4,h2⟩))
 .obtain rfl|h'| ⟨h4,h5⟩ | ⟨h4,h5,h6⟩:=h'
  .exact Or.inr (Or.inr (Or.inr ⟨h1,h2,h3⟩))
  .exact Or.inr (Or.inl h')
  .rw[cz]at h2;omega
  .have:=km hw h1;exact Or.inr (Or.inr (Or.inr ⟨h1,h5,yB hw 4 (by omega) (by omega) h3 h6⟩))
theorem rT {cs:List Cls} (hw:WfC cs) {a b:UInt8} (h:bR cs a b=true) (h':bR cs b a=true):a=b:=by
 rw[bc]at h h';have e:a.toNat=b.toNat->a=b:=ck;obtain h|h| ⟨h1,h2⟩ | ⟨h1,h2,h3⟩:=h
 .exact h
 .obtain h'|h'| ⟨h1,h2⟩ | ⟨h1,h2,h3⟩:=h'
  .exact h'.symm
  .exact e (by omega)
  .omega
  .rw[cz]at h1;omega
 .obtain h'|h'| ⟨h3,h4⟩ | ⟨h3,h4,h5⟩:=h'
  .exact h'.symm
  .omega
  .rw[cz]at h1;omega
  .rw[cz]at h4;omega
 .obtain h'|h'| ⟨h4,h5⟩ | ⟨h4,h5,h6⟩:=h'
  .exact h'.symm
  .rw[cz]at h1;omega
  .rw[cz]at h2;omega
  .have c:=km hw h1;have d:=km hw h2;have:=wT hw 4 (by omega) (by omega) h3;have:=wT hw 4 (by omega) (by omega) h6
   apply e
   unfold kl at*;omega
theorem wV {cs:List Cls} (hw:WfC cs) {q:Nat} (hq:q<=3):isC (UInt8.ofNat (65+q))=true/\kl (UInt8.ofNat (65+q))=q:=by
 have h:(UInt8.ofNat (65+q)).toNat=65+q:=by simp;omega
 rw[cz];unfold kl;omega
theorem mh {cs:List Cls} (hw:WfC cs) (a b:UInt8):bR cs a (gr cs a b)=true/\bR cs b (gr cs a b)=true/\ ∀c,bR cs a c=true->bR cs b c=true->bR cs (gr cs a b) c=true:=by
 unfold gr
 by_cases h1:bR cs a b=true
 .rw[if_pos h1];exact⟨h1,gu _,λc _ h=>h⟩
 rw[if_neg h1]
 by_cases h2:bR cs b a=true
 .rw[if_pos h2];exact⟨gu _,h2,λc h _=>h⟩
 rw[if_neg h2];have top: ∀x:UInt8,bR cs x 45=true:=λx=>bc.2 (Or.inr (Or.inl rfl))
 by_cases h3:isC a=false\/isC b=false
 .rw[if_pos h3];refine⟨top _,top _,λc ha hb=> ?_⟩;rw[bc]at ha hb
  have hc:c.toNat=45:=by
   obtain rfl|ha| ⟨p1,p2⟩ | ⟨p1,p2,p3⟩:=ha
   .exact absurd (bc.2 hb) h2
   .exact ha
   .obtain rfl|hb| ⟨q1,q2⟩ | ⟨q1,q2,q3⟩:=hb
    .exact absurd (bc.2 (Or.inr (Or.inr (Or.inl ⟨p1,p2⟩)))) h1
    .exact hb
    .exact absurd (bc.2 (Or.inl (ck (by omega)))) h1
    .exact absurd (bc.2 (Or.inr (Or.inr (Or.inl ⟨q1,p2⟩)))) h1
   .obtain rfl|hb| ⟨q1,q2⟩ | ⟨q1,q2,q3⟩:=hb
    .exact absurd (bc.2 (Or.inr (Or.inr (Or.inr ⟨p1,p2,p3⟩)))) h1
    .exact hb
    .exact absurd (bc.2 (Or.inr (Or.inr (Or.inl ⟨p1,q2⟩)))) h2
    .obtain h3|h3:=h3
     .rw[h3]at p1;cases p1
     .rw[h3]at q1;cases q1
  exact bc.2 (Or.inr (Or.inl hc))
 rw[if_neg h3];have ha:isC a=true:=by have:=not_or.1 h3;simpa using this.1
 have hb:isC b=true:=by have:=not_or.1 h3;simpa using this.2
 have j:=km hw ha;have r:=km hw hb;have hp:=dZ hw (p:=kl a) j.1
 have base: ∀c,bR cs a c=true->bR cs b c=true->c.toNat=45\/(isC c=true/\cB cs 5 (dG cs (kl a)) (kl c)=true/\cB cs 5 (kl b) (kl c)=true):=by
  intro c g d;rw[bc]at g d;obtain rfl|g| ⟨p1,p2⟩ | ⟨p1,p2,p3⟩:=g
  .exact absurd (bc.2 d) h2
  .exact Or.inl g
  .rw[cz]at ha;omega
  .obtain rfl|d| ⟨q1,q2⟩ | ⟨q1,q2,q3⟩:=d
   .exact absurd (bc.2 (Or.inr (Or.inr (Or.inr ⟨p1,p2,p3⟩)))) h1
   .exact Or.inl d
   .rw[cz]at hb;omega
   .obtain h|h:=(f9 hw j.1 (by omega)).1 p3
    .have:a=c:=by
      apply ck
      unfold kl at h;omega
     subst this;exact absurd (bc.2 (Or.inr (Or.inr (Or.inr ⟨q1,q2,q3⟩)))) h2
    .exact Or.inr ⟨p2,h,q3⟩
 obtain⟨e,i⟩ | ⟨q,n,e,k,l,m⟩:=wU hw (f:=5) (p:=dG cs (kl a)) (y:=kl b) (by omega) (by omega) (by omega)
 .rw[show mC cs ((b.toNat:Int)-65) 5 (dG cs ((a.toNat:Int)-65))=45 from e];refine⟨top _,top _,λc g d=> ?_⟩;obtain h| ⟨_,h4,h5⟩:=base c g d
  .exact bc.2 (Or.inr (Or.inl h))
  .rw[i _ h4]at h5;cases h5
 .rw[show mC cs ((b.toNat:Int)-65) 5 (dG cs ((a.toNat:Int)-65))=UInt8.ofNat (65+q)from e];obtain⟨l1,l2⟩:=wV hw n;refine⟨?_,?_,λc g d=> ?_⟩
  .rw[bc,l2];exact Or.inr (Or.inr (Or.inr ⟨ha,l1,(f9 hw j.1 (by omega)).2 (Or.inr k)⟩))
  .rw[bc,l2];exact Or.inr (Or.inr (Or.inr ⟨hb,l1,l⟩))
  .obtain h| ⟨h3,h4,h5⟩:=base c g d
   .exact bc.2 (Or.inr (Or.inl h))
   .rw[bc,l2];exact Or.inr (Or.inr (Or.inr ⟨l1,h3,m _ h4 h5⟩))
end
namespace Sp
def WfF (cs:List Cls):Prop:= ∀(j:Nat) (c:Cls),cs[j]?=some c->0<=c.par->bF cs c.par.toNat<+:c.fields
theorem nC {cs ds:List Cls} {k:Nat} (h:k<cs.length):bF (cs++ds) k=bF cs k:=by
 simp[bF,eQ h]
theorem ux {s:ByteArray}: ∀{k:Nat} {cs:List Cls} {i:Nat} {r:List Cls} {j:Nat},WfC cs->WfF cs->fw s k cs i= .ok (r,j)->WfF r:=by
 intro k
 induction k with
 |zero=>
  intro cs i r j e d h;unfold fw at h
  split at h
  .cases h;exact d
  .cases h
 |succ k ih=>
  intro cs i r j e d h;unfold fw at h
  split at h
  .cases h;exact d
  .split at h
   .cases h
   .rename_i p l hp
    split at h
    .cases h
    .rename_i own m ho
     refine ih (sM e hp ho) ?_ h;intro j c a hc;obtain hl|hl:=ju j cs.length
     .rw[eQ hl]at a;have b:=e j c a;rw[nC (by omega)];exact d j c a hc
     .rw[gG hl]at a
      cases hk:j-cs.length with
      |succ q=>rw[hk]at a;simp at a
      |zero=>
       rw[hk]at a;simp at a;subst a;simp only at hc⊢;have b:=(pH hp).2
       have f:p.toNat<cs.length:=by
        obtain b| ⟨_,b,f⟩:=b
        .omega
        .simp[aQ]at b;omega
       rw[nC f,inh,if_neg (by omega)];exact List.prefix_append _ _
theorem nD {cs:List Cls} (hw:WfC cs) (hf:WfF cs): ∀(k:Nat) {x y:Int},x<=k->k<=4->x<cs.length->cB cs 5 x y=true->bF cs y.toNat<+:bF cs x.toNat:=by
 intro k
 induction k with
 |zero=>
  intro x y hx a hl h;have:=wT hw 0 hx a h;have:x=y:=by omega
  subst this;exact fy _
 |succ k ih=>
  intro x y hx a hl h;have f:=wT hw (k+1) hx a h;obtain h1|h1:=(f9 hw (by omega) (by omega)).1 h
  .subst h1;exact fy _
  .have hp:=dZ hw (p:=x) (by omega)
   have e:0<=dG cs x:=by
    obtain h'|h':=Int.lt_or_le (dG cs x) 0
    .rw[lG hw h']at h1;cases h1
    .exact h'
   refine(ih (by omega) (by omega) (by omega) h1).trans ?_;obtain⟨c,hc⟩: ∃c,cs[x.toNat]?=some c:=⟨_,aM (by omega)⟩;have b:dG cs x=c.par:=by simp[dG,hc]
   have d:bF cs x.toNat=c.fields:=by simp[bF,hc]
   rw[b,d];exact hf _ _ hc (by omega)
def WfL (gs:List Sig) (b:Bod):Prop:=0<=b.cls-> ∃t,b.zy=UInt8.ofNat (65+b.cls.toNat)::jv gs b.meth.toNat::t
theorem Bg {s:ByteArray} {cs:List Cls} {gs:List Sig}: ∀{k:Nat} {bs:List Bod} {i:Nat} {r:List Bod} {j:Nat},(∀b∈bs,WfL gs b/\0<=b.cls)->kG s cs gs k bs i= .ok (r,j)-> ∀b∈r,WfL gs b/\0<=b.cls:=by
 intro k
 induction k with
 |zero=>
  intro bs i r j a h;unfold kG at h
  split at h
  .cases h;exact a
  .cases h
 |succ k ih=>
  intro bs i r j a h;unfold kG at h
  split at h
  .cases h;exact a
  .split at h
   .cases h
   .split at h
    .cases h
    .split at h
     .cases h
     .split at h
      .cases h
      .split at h
       .cases h
       .refine ih (λb hb=> ?_) h;obtain hb|hb:=gH hb
        .exact a b hb
        .rw[List.mem_singleton]at hb;subst hb;exact⟨λ_=>⟨_,rfl⟩,by simp⟩
structure WfE (im:Img):Prop where
 fld:WfF im.zq
 loc: ∀b∈im.zj,WfL im.zx b
 main: ∃bs m,im.zj=bs++ [m]/\m.cls= -1/\ ∀b∈bs,0<=b.cls
theorem zk {s:ByteArray} {im:Img} (h:gJ s= .ok im):WfE im:=by
 unfold gJ at h
 split at h
 .cases h
 .rename_i cs l1 h1
  split at h
  .cases h
  .rename_i gs l2 h2
   split at h
   .cases h
   .rename_i bs l3 h3
    split at h
    .cases h
    .rename_i t l4 h4
     split at h
     .cases h
     .rename_i is l5 h5
      split at h
      .cases h
      .cases h
       have hb:=Bg (λb hb=>by simp at hb) h3;refine⟨ux (λj c h=>by simp at h) (λj c h=>by simp at h) h1,λb hbm=> ?_,⟨bs,_,rfl,rfl,λb hb'=>(hb b hb').2⟩⟩;simp at hbm;obtain hbm|rfl:=hbm
       .exact(hb b hbm).1
       .exact λh=>absurd h (by simp)
theorem zl {s:ByteArray} {im:Img} (h:dM s= .ok im):WfE im/\(∀b∈im.zj,∀x∈b.code,x.op.toNat=99->0<=cO im.zq im.zj x.b 5 x.a):=by
 unfold dM at h
 split at h
 .cases h
 .split at h
  .cases h
  .rename_i im' hr
   split at h
   .cases h
   .rename_i hn
    cases h
    refine⟨zk hr,λb hb x hx ho=> ?_⟩;rw[List.findSome?_eq_none_iff]at hn;have c:=hn b hb;unfold unl at c;rw[Option.map_eq_none_iff,List.find?_eq_none]at c;have d:=c x hx;simp[lB,ho]at d;exact d
end Sp
section
open Go Go.RowKit Sp Go.ChangeShapes Go.WideShapes Go.ChangeAt
theorem Ep:ownKnob prog.godebug=none:=by kernel_rfl
theorem C3:laidOutB prog=true:=by kernel_rfl
theorem C4:prog.cellsOf 27=7:=by kernel_rfl
theorem sS:prog.cellsOf 3=1:=by kernel_rfl
theorem wW:prog.cellsOf 9=1:=by kernel_rfl
theorem Bh: ∃f0 f1 f2 f3 f4 f5 f6:Field,prog.underlying 27=some (.struct #[f0,f1,f2,f3,f4,f5,f6])/\
  (f0.type=3/\f0.offset=0)/\(f1.type=3/\f1.offset=1)/\(f2.type=3/\f2.offset=2)/\(f3.type=3/\f3.offset=3)/\
  (f4.type=9/\f4.offset=4)/\(f5.type=9/\f5.offset=5)/\(f6.type=9/\f6.offset=6):=
 ⟨_,_,_,_,_,_,_,Tryz.underlying27,⟨rfl,rfl⟩,⟨rfl,rfl⟩,⟨rfl,rfl⟩,⟨rfl,rfl⟩,⟨rfl,rfl⟩,⟨rfl,rfl⟩,⟨rfl,rfl⟩⟩
theorem C5 {w:World} {a:Addr} {v:Value} (h:w.cell? a=some v):a.block<w.heap.size:=by
 obtain h1|h1:=ju a.block w.heap.size
 .exact h1
 .unfold World.cell? at h;rw[Array.getElem?_eq_none h1]at h;simp at h
section
variable {H:Type} {enc:TypeId×Value->H} {W:World}
/--What the reading of a script gives:it lies in memory as the walk wants it. -/
theorem uy {v:Value} {d:DataW H} {ps:List MemPlace} (h:DataW.Trod enc prog W 0 (λ_=>true) true 22 v d ps) (hv:v.cells.toList=[v]):
  ∃ao n cap,v= .slice ao n cap/\D7 W ao n:=by
 obtain⟨fuel,h⟩:=h;obtain⟨g,_⟩ | ⟨a,len,cap,m,n,D,Pl,g,hb,hl,hm,l,_,hx⟩:=Deep.open_slice Tryz.underlying22 h
 .rw[hv]at g;refine⟨none,0,0,by simpa using g,by unfold maxLen;omega,λh=>absurd h (by omega)⟩
 .rw[hv]at g;refine⟨some a,len,cap,by simpa using g,by omega,λhp=> ?_⟩;have a0:len<=m:=by rw[l];split<;>omega
  obtain⟨Q,S,T,X,Y,Z,f6,hu,⟨t0,o0⟩,⟨t1,o1⟩,⟨t2,o2⟩,⟨t3,o3⟩,⟨t4,o4⟩,⟨t5,o5⟩,⟨t6,o6⟩⟩:=Bh
  have each: ∀k,k<len-> ∃cs,(∀i,i<7->W.cell? (a.add (k*7+i))=cs[i]?)/\ ∃kd x y z s t u,cs=[Value.int .i64 kd,.int .i64 x,.int .i64 y,.int .i64 z,.string s,.string t,.string u]/\s.size<=maxLen:=by
   intro k P;obtain⟨cs',O,h2⟩:=hx k (by omega);rw[C4]at O;obtain⟨_,j,c⟩:=World.cells?_some O;obtain⟨xs,k',_,a1,_,p,e⟩:=DataW.trod_struct hu h2;refine⟨cs',λi hi=>by rw[<-c i hi,Deep.add_add],?_⟩
   match cs',j with
   | [v0,v1,v2,v3,v4,v5,v6],_=>
   match xs,p with
   | [y0,y1,y2,y3,y4,y5,y6],_=>
   have G:=e 0 Q rfl;have g1:=e 1 S rfl;have g2:=e 2 T rfl;have I:=e 3 X rfl;have J:=e 4 Y rfl;have L:=e 5 Z rfl;have M:=e 6 f6 rfl;rw[t0,o0,sS]at G;rw[t1,o1,sS]at g1;rw[t2,o2,sS]at g2;rw[t3,o3,sS]at I;rw[t4,o4,wW]at J;rw[t5,o5,wW]at L;rw[t6,o6,wW]at M;obtain⟨i0,q,_⟩:=DataW.trod_int Tryz.underlying3 G;obtain⟨i1,r,_⟩:=DataW.trod_int Tryz.underlying3 g1;obtain⟨i2,A,_⟩:=DataW.trod_int Tryz.underlying3 g2;obtain⟨i3,B,_⟩:=DataW.trod_int Tryz.underlying3 I;obtain⟨i4,C,_,l4⟩:=DataW.trod_string Tryz.underlying9 J;obtain⟨i5,E,_⟩:=DataW.trod_string Tryz.underlying9 L;obtain⟨i6,F,_⟩:=DataW.trod_string Tryz.underlying9 M
   simp at q r A B C E F;subst q r A B C E F;exact⟨i0,i1,i2,i3,i4,i5,i6,rfl,l4⟩
  obtain⟨b,off,spot⟩:=a;obtain⟨cs,hc,kd,x,y,z,s,t,u,rfl,_⟩:=each 0 hp;have c0:=hc 0 (by omega);have c1:W.cell? ⟨b,off,spot⟩=some (.int .i64 kd):=c0;have f:spot=none:=World.cell?_spot c1;subst f;refine⟨b,off,rfl,C5 c1,λk P=> ?_⟩;obtain⟨cs,hc,kd,x,y,z,s,t,u,rfl,hs⟩:=each k P;simp only[WideShapes.add_plain]at hc;exact⟨kd,s,⟨x,y,z,t,u,hc 0 (by omega),hc 1 (by omega),hc 2 (by omega),hc 3 (by omega),hc 4 (by omega),hc 5 (by omega),hc 6 (by omega)⟩,hs⟩
end
theorem F7 {a b:Bool} (h1:a=true) (h2:b=true):(a&&b)=true:=by rw[h1,h2];rfl
def sT:DataW Unit->Array Value
 | .agg ps=>(ps.map λ| .lit (.int k n)=>Value.int k n|_=>Value.bool false).toArray
 |_=>#[]
def gK (d:DataW Unit):Obj->Obj
 | .cells _ t frozen=> .cells (sT d) t frozen
 |o=>o
end
end Go.Proofs.YtpfkkmacakjmbaaGreatDoor
