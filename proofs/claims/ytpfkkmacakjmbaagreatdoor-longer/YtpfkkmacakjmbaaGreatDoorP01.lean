import Derived.Test.YtpfkkmacakjmbaaGreatDoorP00
import Derived.Lib.ItoaNum
import Derived.IntWalk
set_option maxRecDepth 100000
set_option maxHeartbeats 6400000
set_option linter.unusedSimpArgs false
set_option linter.unusedVariables false
namespace Go.Proofs.YtpfkkmacakjmbaaGreatDoor
section
open Go Go.RowKit Sp
attribute [local go_sem ↓] Go.wp_at_zero Go.wp_at_succ
theorem gK (e:Int) (w:World):
  Calls Tryz.prog 21 #[.int .i64 e] w fun en w'=>en= .returned (.int .i64 e)∧w'=w:=by
 go_in
 go_wp2_with fail
 all_goals go_ret
 all_goals exact⟨rfl,rfl⟩
structure CJ (w:World) (b o:Nat) (kd:Int) (s:ByteArray):Prop where
 rest: ∃(x y z:Int) (t u:ByteArray),w.cell? ⟨b,o,none⟩=some (.int .i64 kd)∧w.cell? ⟨b,o+1,none⟩=some (.int .i64 x)∧w.cell? ⟨b,o+2,none⟩=some (.int .i64 y)∧w.cell? ⟨b,o+3,none⟩=some (.int .i64 z)∧
  w.cell? ⟨b,o+4,none⟩=some (.string s)∧w.cell? ⟨b,o+5,none⟩=some (.string t)∧w.cell? ⟨b,o+6,none⟩=some (.string u)
 short:s.size≤maxLen
def A3 (w:World) (ao:Option Addr) (n:Nat):Prop:=
 n≤maxLen∧(0<n→ ∃b o,ao=some ⟨b,o,none⟩∧b<w.heap.size∧ ∀k,k<n→ ∃kd s,CJ w b (o+k*7) kd s)
end
namespace Sp
def bO (cs:List Cls):Nat→Int→Int→Bool
 |0,_,_=>false
 |f+1,x,y=>if x<0 then false else if x=y then true else bO cs f (cR cs x) y
def isC (c:UInt8):Bool:=decide (65≤c.toNat)&&decide (c.toNat≤68)
def bP (cs:List Cls) (a b:UInt8):Bool:=
 if a.toNat=b.toNat∨b.toNat=45 then true else
 if isC b=false then false else
 if a.toNat=122 then true else
 if isC a=false then false else bO cs 5 ((a.toNat:Int)-65) ((b.toNat:Int)-65)
def km (cs:List Cls) (y:Int):Nat→Int→UInt8
 |0,_=>45
 |f+1,p=>if p<0 then 45 else if bO cs 5 y p=true then UInt8.ofNat (65+p.toNat)else km cs y f (cR cs p)
def iv (cs:List Cls) (a b:UInt8):UInt8:=
 if bP cs a b=true then b else
 if bP cs b a=true then a else
 if isC a=false∨isC b=false then 45 else
 km cs ((b.toNat:Int)-65) 5 (cR cs ((a.toNat:Int)-65))
def okT (n:Nat) (c:UInt8):Bool:=cG n c||decide (c.toNat=122)||decide (c.toNat=45)
theorem dI {n:Nat} {c:UInt8}:okT n c=true↔c.toNat=105∨(65≤c.toNat∧c.toNat<65+n)∨c.toNat=122∨c.toNat=45:=by
 simp[okT,cG,aO,or_assoc]
theorem bL {c:UInt8}:isC c=true↔65≤c.toNat∧c.toNat≤68:=by simp[isC]
def isR (c:UInt8):Bool:=decide (c.toNat=122)||isC c
def dJ (cs:List Cls) (stack want:List UInt8):Bool:=
 decide (want.length≤stack.length)&&(List.range want.length).all fun i=>bP cs (stack.getD (stack.length-want.length+i) 0) (want.getD i 0)
def cA (cs:List Cls) (a k:Nat):UInt8:=((cs[a]?.map (·.fields)).getD []).getD k 0
def cL (a:Nat):UInt8:=UInt8.ofNat (65+a)
def ia (gs:List Sig) (k:Nat):UInt8:=(gs[k]?.map (·.arg)).getD 0
def fm (gs:List Sig) (k:Nat):UInt8:=(gs[k]?.map (·.ret)).getD 0
def arith (c:Nat):Bool:=[43,45,42,47,60,61].contains c
def bC (cs:List Cls) (gs:List Sig) (b:Bod) (x:Ins):List UInt8:=
 if x.op.toNat=119∨x.op.toNat=102 then [105]else
 if arith x.op.toNat=true then [105,105]else
 if x.op.toNat=103 then [cL x.a]else
 if x.op.toNat=112 then [cL x.a,cA cs x.a x.b]else
 if x.op.toNat=99 then [cL x.a,ia gs x.b]else
 if x.op.toNat=116 then(if b.cls<0 then [105]else [fm gs b.meth.toNat])else []
def bH (cs:List Cls) (gs:List Sig) (x:Ins):List UInt8:=
 if x.op.toNat=107∨x.op.toNat=114∨arith x.op.toNat=true∨x.op.toNat=101 then [105]else
 if x.op.toNat=122 then [122]else
 if x.op.toNat=110∨x.op.toNat=120 then [cL x.a]else
 if x.op.toNat=103 then [cA cs x.a x.b]else
 if x.op.toNat=99 then [fm gs x.b]else []
def d9 (c:Nat) (stack:List UInt8):Option Nat:=
 if c=101 then
  if stack.length<2∨isR (stack.getD (stack.length-1) 0)=false∨isR (stack.getD (stack.length-2) 0)=false then none else some 2
 else if stack.length<1∨(c=120∧isR (stack.getD (stack.length-1) 0)=false)then none else some 1
def dP (cs:List Cls) (gs:List Sig) (b:Bod) (x:Ins) (stack locals:List UInt8):Option (List UInt8×List UInt8):=
 if x.op.toNat=115∨x.op.toNat=100∨x.op.toNat=101∨x.op.toNat=120 then
  match d9 x.op.toNat stack with
  |none=>none
  |some k=>some (stack.take (stack.length-k)++bH cs gs x,if x.op.toNat=115 then locals.set x.b (stack.getD (stack.length-1) 0)else locals)
 else if x.op.toNat=108 then
  if(locals.getD x.b 0).toNat=45 then none else some (stack++ [locals.getD x.b 0],locals)
 else if dJ cs stack (bC cs gs b x)=true then some (stack.take (stack.length-(bC cs gs b x).length)++bH cs gs x,locals)
 else none
def df (cs:List Cls) (a b:List UInt8):List UInt8:=List.zipWith (iv cs) a b
theorem pj {cs:List Cls} {a b:List UInt8} (h:a.length=b.length):(df cs a b).length=a.length:=by
 simp[df,h]
def dF (x:Ins) (i:Nat):Int×Int:=
 if x.op.toNat=116 then(-1,-1)else
 if x.op.toNat=106 then((x.b:Int),-1)else
 if x.op.toNat=102 then((i:Int)+1,(x.b:Int))else((i:Int)+1,-1)
def fC (cs:List Cls) (a:Option (List UInt8×List UInt8)) (sb lb:List UInt8):Option (List UInt8×List UInt8):=match a with
 |none=>some (sb,lb)
 |some (sa,la)=>if sa.length=sb.length then some (df cs sa sb,df cs la lb)else none
def okS (n nl:Nat) (s l:List UInt8):Prop:=(∀c∈s,okT n c=true)∧(∀c∈l,okT n c=true)∧l.length=nl∧s.length≤100
def bS (cs:List Cls) (T:List (Option (List UInt8×List UInt8))×Bool×Bool) (j:Int) (sb lb:List UInt8):List (Option (List UInt8×List UInt8))×Bool×Bool:=
 if T.2.2=true∨j<0 then T else
 if(T.1.length:Int)≤j then(T.1,T.2.1,true)else
 match fC cs (T.1.getD j.toNat none) sb lb with
 |none=>(T.1,T.2.1,true)
 |some m=>if some m=T.1.getD j.toNat none then T else(T.1.set j.toNat (some m),true,false)
theorem mh {cs:List Cls} (hw:WfC cs) {x:Int} (hx:x<cs.length) (h0:0≤x): -1≤cR cs x∧cR cs x<cs.length:=by
 unfold cR;obtain⟨n,rfl⟩:=Int.eq_ofNat_of_zero_le h0;have hn:n<cs.length:=by omega
 rw[Int.toNat_natCast,List.getElem?_eq_getElem hn];have:=hw n _ (List.getElem?_eq_getElem hn);simp;omega
theorem ro {cs:List Cls} {y:Int} (hn:cs.length≤4) (hw:WfC cs): ∀{f:Nat} {p:Int},-1≤p→p<cs.length→okT cs.length (km cs y f p)=true:=by
 intro f
 induction f with
 |zero=>intro p _ _;simp[km,okT]
 |succ f ih=>
  intro p h1 h2;unfold km
  split
  ·simp[okT]
  ·split
   ·rw[dI]
    right;left
    rw[UInt8.toNat_ofNat'];omega
   ·have:=mh hw h2 (by omega);exact ih this.1 this.2
theorem rp {cs:List Cls} {a b:UInt8} (hn:cs.length≤4) (hw:WfC cs) (ha:okT cs.length a=true) (hb:okT cs.length b=true):okT cs.length (iv cs a b)=true:=by
 unfold iv
 split
 ·exact hb
 ·split
  ·exact ha
  ·split
   ·simp[okT]
   ·rename_i h
    have a1:=dI.1 ha
    have a0:isC a=true:=by cases h':isC a with
     |true=>rfl
     |false=>exact absurd (Or.inl h') h
    have:=bL.1 a0;have hr:=mh hw (x:=(a.toNat:Int)-65) (by omega) (by omega);exact ro hn hw hr.1 hr.2
theorem vR (cs:List Cls) (gs:List Sig) (x:Ins):(bH cs gs x).length≤1:=by
 unfold bH
 repeat' split
 all_goals simp
def cV:List Nat:=[48,49,50,51,52,53,54,55,56,57,114,119,108,115,43,45,42,47,60,61,101,110,122,103,112,99,120,44,105,111]
def bJ (c:UInt8):Bool:=decide (48≤c.toNat)&&decide (c.toNat≤57)
def az (c:UInt8):Nat:=
 if c.toNat=105 then 3
 else if [43,45,42,47,60,61,101,112,99,44,111].contains c.toNat=true then 2
 else if [115,103,120,119].contains c.toNat=true then 1
 else 0
def lM (s:ByteArray) (cs:List Cls) (ns nl i:Nat):Except Nat (Ins×Nat):=
 if cV.contains (pk s i).toNat=true then
  match dY s cs ns nl (pk s i).toNat (i+1)with
  | .ok (a,b,j)=> .ok (⟨pk s i,a,if bJ (pk s i)=true then(pk s i).toNat-48 else b,i⟩,j)
  | .error j=> .error j
 else .error i
def dQ (s:ByteArray) (cs:List Cls) (ns nl:Nat):Nat→List Ins→Nat→Nat→Except Nat (List Ins×Nat)
 |_,t,0,i=> .ok (t,i)
 |0,_,_+1,i=> .error i
 |k+1,t,m+1,i=>
  match lM s cs ns nl i with
  | .error j=> .error j
  | .ok (x,j)=>dQ s cs ns nl k (t++ [x]) (m+az x.op) j
theorem jv {s:ByteArray} {cs:List Cls} {ns nl k:Nat} {t:List Ins} {i:Nat}:dQ s cs ns nl k t 0 i= .ok (t,i):=by cases k<;>rfl
theorem tJ {s:ByteArray} {cs:List Cls} {ns nl:Nat}: ∀{k:Nat} {t:List Ins} {m i:Nat} {r:List Ins} {j:Nat},dQ s cs ns nl k t m i= .ok (r,j)→t.length≤r.length∧r.length≤t.length+k∧ ∃u,r=t++u:=by
 intro k
 induction k with
 |zero=>
  intro t m i r j h
  cases m with
  |zero=>cases h;exact⟨by omega,by omega,[],by simp⟩
  |succ m=>cases h
 |succ k ih=>
  intro t m i r j h
  cases m with
  |zero=>cases h;exact⟨by omega,by omega,[],by simp⟩
  |succ m=>
   simp only[dQ]at h
   cases hx:lM s cs ns nl i with
   |error l=>rw[hx]at h;cases h
   |ok y=>
    rw[hx]at h;obtain⟨h1,h2,u,h3⟩:=ih h;simp at h1 h2;exact⟨by omega,by omega,y.1::u,by rw[h3];simp⟩
theorem Bh {s:ByteArray} {cs:List Cls} {ns nl:Nat}: ∀{k:Nat} {t:List Ins} {m n i:Nat},dQ s cs ns nl k t (m+n) i=match dQ s cs ns nl k t m i with
  | .error j=> .error j
  | .ok (r,j)=>dQ s cs ns nl (k-(r.length-t.length)) r n j:=by
 intro k
 induction k with
 |zero=>
  intro t m n i
  cases m with
  |zero=>simp[jv]
  |succ m=>rw[show m+1+n=(m+n)+1 from by omega];rfl
 |succ k ih=>
  intro t m n i
  cases m with
  |zero=>simp[jv]
  |succ m=>
   rw[show m+1+n=(m+n)+1 from by omega];simp only[dQ]
   cases hx:lM s cs ns nl i with
   |error l=>rfl
   |ok y=>
    obtain⟨x,j⟩:=y;simp only;rw[show m+n+az x.op=(m+az x.op)+n from by omega,ih]
    cases hr:dQ s cs ns nl k (t++ [x]) (m+az x.op) j with
    |error l=>rfl
    |ok q=>
     obtain⟨r,l⟩:=q;have:=tJ hr;simp only
     have e:k-(r.length-(t++ [x]).length)=k+1-(r.length-t.length):=by
      have:=this.1;simp at this⊢;omega
     rw[e]
def mi (s:ByteArray) (cs:List Cls) (ns nl i:Nat):Except Nat (List Ins×Nat):=
 match dQ s cs ns nl 24 [] 1 i with
 | .error j=> .error j
 | .ok (t,j)=>if(pk s j).toNat=46 then .ok (t,j+1)else .error j
def kh (s:ByteArray) (cs:List Cls) (gs:List Sig):Nat→List Bod→Nat→Except Nat (List Bod×Nat)
 |0,bs,i=>if(pk s i).toNat=59 then .ok (bs,i+1)else .error i
 |k+1,bs,i=>if(pk s i).toNat=59 then .ok (bs,i+1)else
  match hU s cs.length i with
  | .error j=> .error j
  | .ok (x,j)=>
   match eY s gs.length j with
   | .error l=> .error l
   | .ok (m,l)=>
    if(mY bs x m).isSome=true then .error j else
    match tys s cs.length 58 3 [] l with
    | .error p=> .error p
    | .ok (t,p)=>
     match mi s cs gs.length (t.length+2) p with
     | .error q=> .error q
     | .ok (is,q)=>kh s cs gs k (bs++ [⟨x,m,UInt8.ofNat (65+x)::kk gs m::t,is⟩]) q
def gL (s:ByteArray):Except Nat Img:=
 match eZ s 4 [] 0 with
 | .error i=> .error i
 | .ok (cs,i)=>
  match kQ s cs.length 3 [] i with
  | .error j=> .error j
  | .ok (gs,j)=>
   match kh s cs gs 6 [] j with
   | .error l=> .error l
   | .ok (bs,l)=>
    match tys s cs.length 58 3 [] l with
    | .error p=> .error p
    | .ok (t,p)=>
     match mi s cs gs.length t.length p with
     | .error q=> .error q
     | .ok (is,q)=>if q<s.size then .error q else .ok ⟨cs,gs,bs++ [⟨-1,-1,t,is⟩]⟩
def sk:Nat→List Ins→Nat
 |0,_=>0
 |_+1,[]=>0
 |m+1,x::t=>1+sk (m+az x.op) t
def full:Nat→List Ins→Prop
 |0,[]=>True
 |0,_::_=>False
 |_+1,[]=>False
 |m+1,x::t=>full (m+az x.op) t
def bu (t:List Ins) (i:Nat):Nat:=i+sk 1 (t.drop i)
theorem mQ {t:List Ins}:sk 0 t=0:=by cases t<;>rfl
theorem Cj: ∀{t:List Ins} {m:Nat},sk m t≤t.length:=by
 intro t
 induction t with
 |nil=>intro m;cases m<;>simp[sk]
 |cons x t ih=>
  intro m
  cases m with
  |zero=>simp[sk]
  |succ m=>have:=ih (m:=m+az x.op);simp[sk];omega
theorem Bi: ∀{t:List Ins} {m n:Nat},sk (m+n) t=sk m t+sk n (t.drop (sk m t)):=by
 intro t
 induction t with
 |nil=>intro m n;cases m<;>cases n<;>simp[sk]
 |cons x t ih=>
  intro m n
  cases m with
  |zero=>simp[mQ]
  |succ m=>
   rw[show m+1+n=(m+n)+1 from by omega];simp only[sk];rw[show m+n+az x.op=(m+az x.op)+n from by omega,ih,show 1+sk (m+az x.op) t=sk (m+az x.op) t+1 from by omega,List.drop_succ_cons];omega
theorem vm: ∀{u:List Ins} {m:Nat} {v:List Ins},full m u→sk m (u++v)=u.length:=by
 intro u
 induction u with
 |nil=>
  intro m v h
  cases m with
  |zero=>simp[mQ]
  |succ m=>cases h
 |cons x u ih=>
  intro m v h
  cases m with
  |zero=>cases h
  |succ m=>simp only[List.cons_append,sk,List.length_cons];rw[ih h];omega
theorem rq {s:ByteArray} {cs:List Cls} {ns nl:Nat}: ∀{k:Nat} {t:List Ins} {m i:Nat} {r:List Ins} {j:Nat},dQ s cs ns nl k t m i= .ok (r,j)→ ∃u,r=t++u∧full m u∧u.length≤k:=by
 intro k
 induction k with
 |zero=>
  intro t m i r j h
  cases m with
  |zero=>cases h;exact⟨[],by simp,trivial,by simp⟩
  |succ m=>cases h
 |succ k ih=>
  intro t m i r j h
  cases m with
  |zero=>cases h;exact⟨[],by simp,trivial,by simp⟩
  |succ m=>
   simp only[dQ]at h
   cases hx:lM s cs ns nl i with
   |error l=>rw[hx]at h;cases h
   |ok y=>
    rw[hx]at h;obtain⟨u,h1,h2,h3⟩:=ih h;exact⟨y.1::u,by rw[h1];simp,h2,by simp;omega⟩
def cH (cs:List Cls) (gs:List Sig) (lo:List UInt8) (x:Ins):List UInt8:=
 if arith x.op.toNat=true then [105,105]
 else if x.op.toNat=119 then [105]
 else if x.op.toNat=115 then [lo.getD x.b 0]
 else if x.op.toNat=103 then [cL x.a]
 else if x.op.toNat=112 then [cL x.a,cA cs x.a x.b]
 else if x.op.toNat=99 then [cL x.a,ia gs x.b]
 else []
def bE (cs:List Cls) (gs:List Sig) (lo:List UInt8) (x:Ins):UInt8:=
 if x.op.toNat=122 then 122
 else if x.op.toNat=108 then lo.getD x.b 0
 else if x.op.toNat=110 then cL x.a
 else if x.op.toNat=103 then cA cs x.a x.b
 else if x.op.toNat=99 then fm gs x.b
 else 105
def br (cs:List Cls) (gs:List Sig) (lo:List UInt8) (x:Ins) (ts:List UInt8):Option UInt8:=
 if cH cs gs lo x≠ []∧dJ cs ts (cH cs gs lo x)=false then none
 else if x.op.toNat=101 then(if isR (ts.getD 0 0)=true∧isR (ts.getD 1 0)=true then some 105 else none)
 else if x.op.toNat=120 then(if isR (ts.getD 0 0)=true then some (cL x.a)else none)
 else if x.op.toNat=44 then some (ts.getD 1 0)
 else if x.op.toNat=105 then(if(ts.getD 0 0).toNat=105∧(iv cs (ts.getD 1 0) (ts.getD 2 0)).toNat≠45 then some (iv cs (ts.getD 1 0) (ts.getD 2 0))else none)
 else if x.op.toNat=111 then(if(ts.getD 0 0).toNat=105 then some 105 else none)
 else some (bE cs gs lo x)
def bQ (t:List Ins) (g:Nat→Option UInt8):Nat→Nat→Option (List UInt8)
 |0,_=>some []
 |n+1,k=>match g k with
  |none=>none
  |some c=>(bQ t g n (bu t k)).map (c:: ·)
def bY (cs:List Cls) (gs:List Sig) (lo:List UInt8) (t:List Ins):Nat→Nat→Option UInt8
 |0,_=>none
 |f+1,i=>match t[i]? with
  |none=>none
  |some x=>match bQ t (bY cs gs lo t f) (az x.op) (i+1)with
   |none=>none
   |some ts=>br cs gs lo x ts
def dZ (s:ByteArray):Except (Nat×Nat) Img:=
 if 400<s.size then .error (1,0)else
 match gL s with
 | .error j=> .error (2,j)
 | .ok im=>match im.bodies.findSome? (fun b=>unl im.classes im.bodies b.code)with
  |some p=> .error (3,p)
  |none=> .ok im
def dR (im:Img) (b:Bod):Bool:=match bY im.classes im.sigs b.locals b.code b.code.length 0 with
 |none=>false
 |some c=>bP im.classes c (if b.cls<0 then 105 else fm im.sigs b.meth.toNat)
def dK (s:ByteArray):Nat×Nat:=match dZ s with
 | .error e=>e
 | .ok im=>match im.bodies.findIdx? (fun b=> !dR im b)with
  |some k=>(4,k)
  |none=>(0,0)
inductive V where
 |i (n:Int)
 |z
 |o (k:Nat)
 deriving DecidableEq
def V.K:V→Nat
 | .i _=>105
 | .z=>122
 | .o _=>111
def V.N:V→Int
 | .i n=>n
 | .z=>0
 | .o k=>k
structure Ob where
 cls:Nat
 fs:List V
structure Ev where
 heap:List Ob
 read:Nat
 left:Nat
 out:List UInt8
inductive R where
 |bad (e:Nat) (out:List UInt8)
 |ok (v:V) (l:List V) (s:Ev)
def cC (t:UInt8):V:=if t.toNat=105 then .i 0 else .z
def bj (cs:List Cls) (a:Nat):List UInt8:=(cs[a]?.map (·.fields)).getD []
def cq (cs:List Cls) (a:Nat):List V:=(bj cs a).map cC
def w32 (n:Int):Int:=RowKit.wrap32 n
def tK (op:Nat) (a b:Int):Int:=
 if op=43 then w32 (a+b)
 else if op=45 then w32 (a-b)
 else if op=42 then w32 (a*b)
 else if op=60 then(if a<b then 1 else 0)
 else(if a=b then 1 else 0)
def jc (s:ByteArray) (i:Nat):Int:=if h:i<s.size then(s[i].toNat:Int)else-1
def Ev.cls (s:Ev) (k:Nat):Nat:=(s.heap[k]?.map (·.cls)).getD 0
def Ev.fs (s:Ev) (k:Nat):List V:=(s.heap[k]?.map (·.fs)).getD []
def Ev.put (s:Ev) (k j:Nat) (v:V):Ev:={s with heap:=s.heap.set k ⟨s.cls k,(s.fs k).set j v⟩}
def Ev.say (s:Ev) (n:Int):Ev:={s with out:=s.out++Lib.itoa n++ [32]}
section
variable (im:Img) (inp:ByteArray)
def ef (x:Ins) (l:List V) (s:Ev):R:=
 if x.op.toNat=114 then .ok (.i (jc inp s.read)) l {s with read:=s.read+1}
 else if x.op.toNat=122 then .ok .z l s
 else if x.op.toNat=108 then .ok (l.getD x.b .z) l s
 else if x.op.toNat=110 then .ok (.o s.heap.length) l {s with heap:=s.heap++ [⟨x.a,cq im.classes x.a⟩]}
 else .ok (.i x.b) l s
def fV (x:Ins) (v:V) (l:List V) (s:Ev):R:=
 if x.op.toNat=115 then .ok (.i 0) (l.set x.b v) s
 else if x.op.toNat=119 then .ok (.i 0) l (s.say v.N)
 else if x.op.toNat=120 then
  match v with
  | .o k=>if bO im.classes 5 (s.cls k) x.a=true then .ok v l s else .bad 8 s.out
  |_=> .ok v l s
 else
  match v with
  | .o k=> .ok ((s.fs k).getD x.b .z) l s
  |_=> .bad 6 s.out
def cX (op:Nat) (a b:Int) (l:List V) (s:Ev):R:=
 if op=47 then(if b=0 then .bad 7 s.out else .ok (.i (w32 (Int.tdiv a b))) l s)else .ok (.i (tK op a b)) l s
def ba (x:Ins) (k:Nat) (s:Ev):Bod:=im.bodies.getD (cE im.classes im.bodies x.b 5 (s.cls k)).toNat ⟨-1,-1,[],[]⟩
def aR (b:Bod) (vs:List V):List V:=vs++(b.locals.drop vs.length).map cC
def eH (call:Bod→List V→R) (d:Nat) (x:Ins) (u v:V) (l:List V) (s:Ev):R:=
 if x.op.toNat=44 then .ok v l s
 else if x.op.toNat=101 then .ok (if u=v then .i 1 else .i 0) l s
 else if x.op.toNat=99 then
  match u with
  | .o k=>if 12≤d then .bad 10 s.out else
   match call (ba im x k s) (aR (ba im x k s) [u,v])with
   | .bad e o=> .bad e o
   | .ok r _ s=> .ok r l s
  |_=> .bad 6 s.out
 else if x.op.toNat=112 then
  match u with
  | .o k=> .ok (.i 0) l (s.put k x.b v)
  |_=> .bad 6 s.out
 else cX x.op.toNat u.N v.N l s
def d7 (c d:List V→Ev→R):Nat→List V→Ev→R
 |0,_,s=> .bad 5 s.out
 |k+1,l,s=>match c l s with
  | .bad e o=> .bad e o
  | .ok v l s=>if v.N=0 then .ok (.i 0) l s else
   match d l s with
   | .bad e o=> .bad e o
   | .ok _ l s=>d7 c d k l s
def bn:Nat→Bod→Nat→Nat→List V→Ev→R
 |0,_,_,_,_,s=> .bad 5 s.out
 |f+1,b,d,i,l,s=>
  if s.left=0 then .bad 5 s.out else
  match b.code[i]? with
  |none=> .bad 0 s.out
  |some x=>
   if az x.op=0 then ef im inp x l {s with left:=s.left-1}else
   if x.op.toNat=111 then d7 (bn f b d (i+1)) (bn f b d (bu b.code (i+1))) f l {s with left:=s.left-1}else
   match bn f b d (i+1) l {s with left:=s.left-1}with
   | .bad e o=> .bad e o
   | .ok u l s=>
    if x.op.toNat=105 then bn f b d (if u.N=0 then bu b.code (bu b.code (i+1))else bu b.code (i+1)) l s
    else if az x.op=1 then fV im x u l s
    else match bn f b d (bu b.code (i+1)) l s with
     | .bad e o=> .bad e o
     | .ok v l s=>eH im (fun b' l'=>bn f b' (d+1) 0 l' s) d x u v l s
def jd (fuel:Nat):List UInt8×Int×Nat:=
 let b:=im.bodies.getD (im.bodies.length-1) ⟨-1,-1,[],[]⟩
 match bn im inp fuel b 1 0 (aR b []) ⟨[],0,fuel,[]⟩with
 | .bad e o=>(o,0,e)
 | .ok v _ s=>(s.out,v.N,0)
end
def eI (s inp:ByteArray) (fuel:Int):List UInt8×Int×Nat:=
 if 40<inp.size∨fuel<0∨4000<fuel then([],0,1)else
 match dZ s with
 | .error e=>([],0,e.1)
 | .ok im=>if(dK s).1=0 then jd im inp fuel.toNat else([],0,(dK s).1)
end Sp
section
open Go Sp
abbrev St:=Option (List UInt8×List UInt8)
abbrev Tn:=List St×Bool×Bool
def eU (im:Img) (bd:Bod) (T:Tn) (i:Nat):Option Tn:=
 match bd.code[i]?,T.1.getD i none with
 |some x,some (s,l)=>
  match dP im.classes im.sigs bd x s l with
  |none=>none
  |some (s',l')=>some (bS im.classes (bS im.classes T (dF x i).1 s' l') (dF x i).2 s' l')
 |_,_=>some T
def dG (im:Img) (bd:Bod):Nat→Nat→Tn→Option Tn
 |0,_,T=>some T
 |f+1,i,T=>if T.2.2=true then some T else
  match eU im bd T i with
  |none=>none
  |some T'=>dG im bd f (i+1) T'
def es (im:Img) (bd:Bod):Nat→Tn→Option (List St)
 |0,T=>some T.1
 |f+1,T=>if T.2.1=false then some T.1 else
  match dG im bd bd.code.length 0 (T.1,false,T.2.2)with
  |none=>none
  |some T'=>if T'.2.2=true then none else es im bd f T'
def cr (bd:Bod):List St:=(List.replicate bd.code.length none).set 0 (some ([],bd.locals))
def db (im:Img) (bd:Bod):Option (List St):=es im bd 80000 (cr bd,true,false)
def iM (tb:List St):Nat:=tb.countP Option.isSome
def okZ (nc nl:Nat) (s l:List UInt8):Prop:=(∀c∈s,okT nc c=true)∧(∀c∈l,okT nc c=true)∧l.length=nl
def wfT (nc nl n:Nat) (tb:List St):Prop:=tb.length=n∧ ∀(k:Nat) s l,tb[k]?=some (some (s,l))→okZ nc nl s l∧s.length<iM tb
theorem mR (tb:List St):iM tb≤tb.length:=List.countP_le_length
theorem wfT.okS {nc nl n:Nat} {tb:List St} (h:wfT nc nl n tb) (hn:n≤100) (k:Nat) (s l:List UInt8) (hk:tb[k]?=some (some (s,l))):okS nc nl s l:=by
 obtain⟨⟨a,b,c⟩,d⟩:=h.2 k s l hk;have:=mR tb;have:=h.1;exact⟨a,b,c,by omega⟩
theorem rt {tb:List St} {j:Nat} {m:List UInt8×List UInt8} (hj:j<tb.length):iM (tb.set j (some m))=iM tb+(if(tb[j]'hj).isSome then 0 else 1):=by
 unfold iM;rw[List.countP_set hj];have:tb[j].isSome=true→0<tb.countP Option.isSome:=fun h=>List.countP_pos_iff.2 ⟨_,List.getElem_mem hj,h⟩
 by_cases h:tb[j].isSome=true
 ·have:=this h;simp[h];omega
 ·simp[h]
theorem pm {cs:List Cls} (hn:cs.length≤4) (hw:WfC cs): ∀{a b:List UInt8},(∀c∈a,okT cs.length c=true)→(∀c∈b,okT cs.length c=true)→ ∀c∈df cs a b,okT cs.length c=true:=by
 intro a
 induction a with
 |nil=>intro b _ _ c hc;simp[df]at hc
 |cons x a ih=>
  intro b ha hb c hc
  cases b with
  |nil=>simp[df]at hc
  |cons y b=>
   simp only[df,List.zipWith_cons_cons,List.mem_cons]at hc;rcases hc with rfl|hc
   ·exact rp hn hw (ha _ (by simp)) (hb _ (by simp))
   ·exact ih (fun c h=>ha c (by simp[h])) (fun c h=>hb c (by simp[h])) c hc
theorem iw {cs:List Cls} {nl n:Nat} (hn:cs.length≤4) (hw:WfC cs) {T:Tn} {j:Int} {sb lb:List UInt8} (h:wfT cs.length nl n T.1) (hz:okZ cs.length nl sb lb) (hl:sb.length≤iM T.1):
  wfT cs.length nl n (bS cs T j sb lb).1∧iM T.1≤iM (bS cs T j sb lb).1:=by
 unfold bS
 split
 ·exact⟨h,Nat.le_refl _⟩
 split
 ·exact⟨h,Nat.le_refl _⟩
 rename_i h1 h2
 have a0:j.toNat<T.1.length:=by omega
 split
 ·exact⟨h,Nat.le_refl _⟩
 rename_i m hm
 split
 ·exact⟨h,Nat.le_refl _⟩
 have hs:=rt (m:=m) a0;simp only;refine⟨⟨by rw[List.length_set];exact h.1,?_⟩,by omega⟩;intro k s l hk;rw[List.getElem?_set]at hk
 split at hk
 ·rename_i hjk
  subst hjk
  try rw[if_pos a0]at hk
  injection hk with hk;injection hk with hk;subst hk;have a1:T.1.getD j.toNat none=T.1[j.toNat]:=by simp[List.getD,a0]
  rw[a1]at hm
  cases ho:T.1[j.toNat]with
  |none=>
   rw[ho]at hm hs;simp[fC]at hm;obtain⟨rfl,rfl⟩:=hm;simp at hs;exact⟨hz,by omega⟩
  |some p=>
   obtain⟨sa,la⟩:=p;rw[ho]at hm hs;simp only[fC]at hm
   split at hm
   ·rename_i hlen
    injection hm with hm;injection hm with h3 h4;subst h3 h4;have ha:=h.2 j.toNat sa la (by rw[List.getElem?_eq_getElem a0,ho]);simp at hs;refine⟨⟨pm hn hw ha.1.1 hz.1,pm hn hw ha.1.2.1 hz.2.1,?_⟩,?_⟩
    ·rw[pj (by rw[ha.1.2.2,hz.2.2])];exact ha.1.2.2
    ·rw[pj hlen];omega
   ·cases hm
 ·have:=h.2 k s l hk;exact⟨this.1,by omega⟩
theorem jZ (cs:List Cls) (T:Tn) (j:Int) (sb lb:List UInt8):(bS cs T j sb lb).1.length=T.1.length:=by
 unfold bS
 split
 ·rfl
 split
 ·rfl
 split
 ·rfl
 split
 ·rfl
 ·simp
theorem iN {n:Nat} {c:UInt8} (h:cG n c=true):okT n c=true:=by simp[okT,h]
theorem ru {im:Img} (hW:WfI im) {x:Ins} {nl:Nat} (hx:WfX im.classes im.sigs.length nl x): ∀c∈bH im.classes im.sigs x,okT im.classes.length c=true:=by
 intro c hc
 have hcl: ∀a,a<im.classes.length→okT im.classes.length (cL a)=true:=by
  intro a ha;have:=hW.nc;rw[dI]
  right;left
  have h1:(cL a).toNat=65+a:=by simp[cL];omega
  omega
 unfold bH at hc
 split at hc
 ·simp at hc;subst hc;simp[dI]
 split at hc
 ·simp at hc;subst hc;simp[dI]
 split at hc
 ·rename_i h
  simp at hc;subst hc;exact hcl _ (hx.cls (by omega))
 split at hc
 ·rename_i h
  simp at hc;subst hc;have h1:=hx.cls (by omega);have h2:=hx.fld (by omega);obtain⟨cl,hcl⟩: ∃cl,im.classes[x.a]?=some cl:=⟨_,List.getElem?_eq_getElem h1⟩;unfold cA;rw[hcl];simp only[cF,hcl]at h2;simp only[Option.map_some,Option.getD_some]at h2⊢;have hf:=hW.cls x.a cl hcl
  have hm:cl.fields.getD x.b 0∈cl.fields:=by
   have:cl.fields.getD x.b 0=cl.fields[x.b]'(by simpa using h2):=by simp[List.getD,h2]
   rw[this];exact List.getElem_mem _
  exact iN (ez (by omega) (hf.2.2.2 _ hm))
 split at hc
 ·rename_i h
  simp at hc;subst hc;have h2:=hx.sig h;obtain⟨g,hg⟩: ∃g,im.sigs[x.b]?=some g:=⟨_,List.getElem?_eq_getElem h2⟩;unfold fm;rw[hg];simp only[Option.map_some,Option.getD_some];exact iN (hW.sig g (List.mem_of_getElem? hg)).2
 ·simp at hc
theorem kU {n:Nat} {l:List UInt8} (h: ∀c∈l,okT n c=true) {k:Nat} (hk:k<l.length):okT n (l.getD k 0)=true:=by
 have:l.getD k 0=l[k]:=by simp[List.getD,hk]
 rw[this];exact h _ (List.getElem_mem _)
theorem kV {im:Img} (hW:WfI im) {bd:Bod} {x:Ins} (hx:WfX im.classes im.sigs.length bd.locals.length x) {s l s' l':List UInt8} (hz:okZ im.classes.length bd.locals.length s l) (h:dP im.classes im.sigs bd x s l=some (s',l')):
  okZ im.classes.length bd.locals.length s' l'∧s'.length≤s.length+1:=by
 have hp:=ru hW hx;have a0:=vR im.classes im.sigs x
 have key: ∀k,(∀c∈s.take k++bH im.classes im.sigs x,okT im.classes.length c=true)∧(s.take k++bH im.classes im.sigs x).length≤s.length+1:=by
  intro k
  constructor
  ·intro c hc;rw[List.mem_append]at hc;rcases hc with hc|hc
   ·exact hz.1 c (List.mem_of_mem_take hc)
   ·exact hp c hc
  ·simp;omega
 unfold dP at h
 split at h
 ·split at h
  ·cases h
  ·rename_i k hk
   injection h with h;injection h with h1 h2;subst h1;refine⟨⟨(key _).1,?_,?_⟩,(key _).2⟩
   ·intro c hc;rw[←h2]at hc
    split at hc
    ·rename_i h115
     have:=List.mem_or_eq_of_mem_set hc;rcases this with h|h
     ·exact hz.2.1 c h
     ·rw[h]
      apply kU hz.1
      rw[h115]at hk;unfold d9 at hk;simp at hk;have:=List.length_pos_iff.2 hk.1;omega
    ·exact hz.2.1 c hc
   ·rw[←h2]
    split
    ·rw[List.length_set];exact hz.2.2
    ·exact hz.2.2
 split at h
 ·split at h
  ·cases h
  ·rename_i h108 _
   injection h with h;injection h with h1 h2;subst h1 h2;refine⟨⟨?_,hz.2⟩,by simp⟩;intro c hc;rw[List.mem_append]at hc;rcases hc with hc|hc
   ·exact hz.1 c hc
   ·simp at hc;subst hc;have:=kU hz.2.1 (k:=x.b) (by rw[hz.2.2];exact hx.loc (Or.inl h108));simpa[List.getD]using this
 split at h
 ·injection h with h;injection h with h1 h2;subst h1 h2;exact⟨⟨(key _).1,hz.2⟩,(key _).2⟩
 ·cases h
theorem rv {im:Img} (hW:WfI im) {bd:Bod} (hb:WfB im.classes im.sigs bd) {n:Nat} {T T':Tn} {i:Nat} (h:wfT im.classes.length bd.locals.length n T.1) (hs:eU im bd T i=some T'):
  wfT im.classes.length bd.locals.length n T'.1:=by
 unfold eU at hs
 split at hs
 ·rename_i x s l hx hst
  split at hs
  ·cases hs
  ·rename_i s' l' he
   injection hs with hs;subst hs
   have hg:T.1[i]?=some (some (s,l)):=by
    simp only[List.getD]at hst
    cases hh:T.1[i]? with
    |none=>rw[hh]at hst;cases hst
    |some o=>rw[hh]at hst;simp at hst;rw[hst]
   have hz:=h.2 i s l hg;have a0:=kV hW (hb.code x (List.mem_of_getElem? hx)) hz.1 he;have h1:=iw hW.nc hW.cls (j:=(dF x i).1) h a0.1 (by omega);exact(iw hW.nc hW.cls (j:=(dF x i).2) h1.1 a0.1 (by omega)).1
 ·injection hs with hs;subst hs;exact h
theorem fo {im:Img} {bd:Bod} (hb:WfB im.classes im.sigs bd):wfT im.classes.length bd.locals.length bd.code.length (cr bd):=by
 unfold cr;refine⟨by simp,?_⟩;intro k s l hk;have h0:0<(List.replicate bd.code.length (none:St)).length:=by simpa using hb.len.1
 have hs:=rt (m:=([],bd.locals)) h0;rw[List.getElem?_set]at hk
 split at hk
 ·rename_i hk0
  subst hk0
  try rw[if_pos h0]at hk
  injection hk with hk;injection hk with hk;injection hk with h1 h2;subst h1 h2;refine⟨⟨by simp,fun c hc=>iN (hb.loc.2 c hc),rfl⟩,?_⟩;rw[hs];simp
 ·rw[List.getElem?_replicate]at hk
  split at hk<;>simp at hk
def kB (im:Img) (bd:Bod) (f:Nat):Option Tn→Option (List St)
 |none=>none
 |some T'=>if T'.2.2=true then none else es im bd f T'
theorem m7 (im:Img) (bd:Bod) (f:Nat) (tb:List St):es im bd (f+1) (tb,true,false)=kB im bd f (dG im bd bd.code.length 0 (tb,false,false)):=by
 unfold es;rw[if_neg (by simp)];simp only
 cases dG im bd bd.code.length 0 (tb,false,false)<;>rfl
theorem iO (im:Img) (bd:Bod) (f:Nat) (tb:List St) (b:Bool):es im bd f (tb,false,b)=some tb:=by
 cases f<;>simp[es]
theorem m8 (im:Img) (bd:Bod) (f i:Nat) (T:Tn) (h:T.2.2=true):dG im bd f i T=some T:=by
 cases f
 ·rfl
 ·simp only[dG,if_pos h]
theorem rx {im:Img} {bd:Bod} {f i:Nat} {T:Tn} (h:T.2.2=false) (hs:eU im bd T i=none):dG im bd (f+1) i T=none:=by
 simp[dG,h,hs]
theorem mj {im:Img} {bd:Bod} {f i:Nat} {T T':Tn} (h:T.2.2=false) (hs:eU im bd T i=some T'):dG im bd (f+1) i T=dG im bd f (i+1) T':=by
 simp[dG,h,hs]
theorem tL {im:Img} {bd:Bod} {T:Tn} {i:Nat} {x:Ins} {s l:List UInt8} (hx:bd.code[i]?=some x) (h:T.1[i]?=some (some (s,l))) (he:dP im.classes im.sigs bd x s l=none):eU im bd T i=none:=by
 unfold eU;rw[List.getD_eq_getElem?_getD,h,hx];simp[he]
theorem m9 {im:Img} {bd:Bod} {T:Tn} {i:Nat} {x:Ins} {s l s' l':List UInt8} (hx:bd.code[i]?=some x) (h:T.1[i]?=some (some (s,l))) (he:dP im.classes im.sigs bd x s l=some (s',l')):
  eU im bd T i=some (bS im.classes (bS im.classes T (dF x i).1 s' l') (dF x i).2 s' l'):=by
 unfold eU;rw[List.getD_eq_getElem?_getD,h,hx];simp[he]
theorem po {im:Img} (hW:WfI im) {bd:Bod} (hb:WfB im.classes im.sigs bd) {n:Nat}: ∀{f i:Nat} {T T':Tn},wfT im.classes.length bd.locals.length n T.1→dG im bd f i T=some T'→wfT im.classes.length bd.locals.length n T'.1:=by
 intro f
 induction f with
 |zero=>intro i T T' h hs;simp[dG]at hs;subst hs;exact h
 |succ f ih=>
  intro i T T' h hs;simp only[dG]at hs
  split at hs
  ·injection hs with hs;subst hs;exact h
  ·split at hs
   ·cases hs
   ·rename_i T1 h1
    exact ih (rv hW hb h h1) hs
theorem tM {im:Img} (hW:WfI im) {bd:Bod} (hb:WfB im.classes im.sigs bd) {n:Nat}: ∀{f:Nat} {T:Tn} {tb:List St},wfT im.classes.length bd.locals.length n T.1→es im bd f T=some tb→wfT im.classes.length bd.locals.length n tb:=by
 intro f
 induction f with
 |zero=>intro T tb h hs;simp[es]at hs;subst hs;exact h
 |succ f ih=>
  intro T tb h hs;simp only[es]at hs
  split at hs
  ·injection hs with hs;subst hs;exact h
  ·split at hs
   ·cases hs
   ·rename_i T1 h1
    split at hs
    ·cases hs
    ·exact ih (po hW hb (by exact h) h1) hs
theorem lN {im:Img} (hW:WfI im) {bd:Bod} (hb:WfB im.classes im.sigs bd) {tb:List St} (h:db im bd=some tb):wfT im.classes.length bd.locals.length bd.code.length tb:=
 tM hW hb (fo hb) h
end
namespace Sp
structure Fm where
 q:Nat
 pc:Nat
 stk:List V
 loc:List V
structure Mv where
 fr:List Fm
 ev:Ev
inductive SR where
 |go (m:Mv)
 |bad (e:Nat) (out:List UInt8)
 |fin (v:V) (out:List UInt8)
inductive Rch (hp:List Ob) (roots:Nat→Prop):Nat→Prop where
 |root (k:Nat) (h:roots k):Rch hp roots k
 |field (j k:Nat) (ob:Ob) (h:Rch hp roots j) (hj:hp[j]?=some ob) (hk:V.o k∈ob.fs):Rch hp roots k
noncomputable def dH (hp:List Ob) (roots:Nat→Prop):Nat:=
 (((List.range hp.length).filter (fun k=> @decide (Rch hp roots k) (Classical.propDecidable _))).map (fun k=>1+((hp[k]?.map (·.fs)).getD []).length)).sum
def dg (vs:List V) (ts:List UInt8):List V:=((vs.zip ts).filter (fun p=>decide (p.2.toNat≠45))).map (·.1)
abbrev cw:=List (List St)
def gM (T:cw) (q pc:Nat):St:=((T[q]?.getD [])[pc]?).getD none
def fW (T:cw) (f:Fm):List V:=match gM T f.q f.pc with
 |some (s,l)=>dg f.stk s++dg f.loc l
 |none=> []
def fX (T:cw) (fr:List Fm) (k:Nat):Prop:= ∃f∈fr,V.o k∈fW T f
section
variable (im:Img) (inp:ByteArray) (T:cw) (cells:Nat)
def A4 (q pc:Nat):Option Ins:=(im.bodies[q]?).bind fun b=>b.code[pc]?
def Fm.on (f:Fm) (stk:List V):Fm:={f with pc:=f.pc+1,stk:=stk}
def cM (s:List V):V:=s.getD (s.length-1) .z
def jw (s:List V):V:=s.getD (s.length-2) .z
def cI (s:List V):List V:=s.take (s.length-1)
def fY (s:List V):List V:=s.take (s.length-2)
noncomputable def stepX (x:Ins) (f:Fm) (rest:List Fm) (s:Ev):SR:=
 if x.op.toNat=107 then .go ⟨f.on (f.stk++ [.i x.b])::rest,s⟩
 else if x.op.toNat=114 then .go ⟨f.on (f.stk++ [.i (jc inp s.read)])::rest,{s with read:=s.read+1}⟩
 else if x.op.toNat=119 then .go ⟨f.on (cI f.stk)::rest,s.say (cM f.stk).N⟩
 else if x.op.toNat=122 then .go ⟨f.on (f.stk++ [.z])::rest,s⟩
 else if x.op.toNat=100 then .go ⟨f.on (cI f.stk)::rest,s⟩
 else if x.op.toNat=108 then .go ⟨f.on (f.stk++ [f.loc.getD x.b .z])::rest,s⟩
 else if x.op.toNat=115 then .go ⟨{f.on (cI f.stk)with loc:=f.loc.set x.b (cM f.stk)}::rest,s⟩
 else if x.op.toNat=106 then .go ⟨{f with pc:=x.b}::rest,s⟩
 else if x.op.toNat=102 then .go ⟨{f with stk:=cI f.stk,pc:=if(cM f.stk).N=0 then x.b else f.pc+1}::rest,s⟩
 else if x.op.toNat=101 then .go ⟨f.on (fY f.stk++ [if jw f.stk=cM f.stk then .i 1 else .i 0])::rest,s⟩
 else if x.op.toNat=110 then
  if dH s.heap (fX T (f::rest))+1+(cq im.classes x.a).length>cells then .bad 9 s.out
  else .go ⟨f.on (f.stk++ [.o s.heap.length])::rest,{s with heap:=s.heap++ [⟨x.a,cq im.classes x.a⟩]}⟩
 else if x.op.toNat=120 then
  match cM f.stk with
  | .o k=>if bO im.classes 5 (s.cls k) x.a=true then .go ⟨f.on f.stk::rest,s⟩else .bad 8 s.out
  |_=> .go ⟨f.on f.stk::rest,s⟩
 else if x.op.toNat=103 then
  match cM f.stk with
  | .o k=> .go ⟨f.on (cI f.stk++ [(s.fs k).getD x.b .z])::rest,s⟩
  |_=> .bad 6 s.out
 else if x.op.toNat=112 then
  match jw f.stk with
  | .o k=> .go ⟨f.on (fY f.stk)::rest,s.put k x.b (cM f.stk)⟩
  |_=> .bad 6 s.out
 else if x.op.toNat=99 then
  match jw f.stk with
  | .o k=>if 12≤rest.length+1 then .bad 10 s.out
   else .go ⟨⟨(cE im.classes im.bodies x.b 5 (s.cls k)).toNat,0,[],aR (ba im x k s) [.o k,cM f.stk]⟩::{f with stk:=fY f.stk}::rest,s⟩
  |_=> .bad 6 s.out
 else if x.op.toNat=116 then
  match rest with
  | []=> .fin (cM f.stk) s.out
  |g::r=> .go ⟨g.on (g.stk++ [cM f.stk])::r,s⟩
 else match cX x.op.toNat (jw f.stk).N (cM f.stk).N [] s with
  | .bad e o=> .bad e o
  | .ok v _ s=> .go ⟨f.on (fY f.stk++ [v])::rest,s⟩
noncomputable def fZ (m:Mv):SR:=match m.fr with
 | []=> .bad 0 m.ev.out
 |f::rest=>match A4 im f.q f.pc with
  |none=> .bad 0 m.ev.out
  |some x=>stepX im inp T cells x f rest m.ev
noncomputable def d8:Nat→Mv→List UInt8×Int×Nat
 |0,m=>(m.ev.out,0,5)
 |n+1,m=>match fZ im inp T cells m with
  | .go m=>d8 n m
  | .bad e o=>(o,0,e)
  | .fin v o=>(o,v.N,0)
noncomputable def kC (fuel:Nat):List UInt8×Int×Nat:=
 d8 im inp T cells fuel ⟨[⟨im.bodies.length-1,0,[],aR (im.bodies.getD (im.bodies.length-1) ⟨-1,-1,[],[]⟩) []⟩],⟨[],0,0,[]⟩⟩
end
structure WfN (cs:List Cls) (ns nl:Nat) (x:Ins):Prop where
 op:cV.contains x.op.toNat=true
 pos:x.pos≤2000
 cls:x.op.toNat=110∨x.op.toNat=120∨x.op.toNat=103∨x.op.toNat=112∨x.op.toNat=99→x.a<cs.length
 fld:x.op.toNat=103∨x.op.toNat=112→x.b<cF cs x.a
 sig:x.op.toNat=99→x.b<ns
 loc:x.op.toNat=108∨x.op.toNat=115→x.b<nl
 num:x.b<100
structure ki (cs:List Cls) (gs:List Sig) (b:Bod):Prop where
 code: ∀x∈b.code,WfN cs gs.length b.locals.length x
 full:full 1 b.code
 len:b.code.length≤24
 loc:b.locals.length≤5∧ ∀t∈b.locals,cG cs.length t=true
 cls:(b.cls= -1∧b.meth= -1)∨(0≤b.cls∧b.cls<cs.length∧0≤b.meth∧b.meth<gs.length)
structure gH (im:Img):Prop where
 cls:WfC im.classes
 nc:im.classes.length≤4
 ns:im.sigs.length≤3
 sig: ∀g∈im.sigs,cG im.classes.length g.arg=true∧cG im.classes.length g.ret=true
 bod: ∀b∈im.bodies,ki im.classes im.sigs b
 nb:im.bodies.length≤7
theorem jx {c:UInt8} (h:bJ c=true):48≤c.toNat∧c.toNat≤57:=by simpa[bJ]using h
theorem zZ {s:ByteArray} {cs:List Cls} {ns nl i:Nat} {x:Ins} {j:Nat} (hs:s.size≤2000) (h:lM s cs ns nl i= .ok (x,j)):WfN cs ns nl x:=by
 unfold lM at h
 split at h
 ·rename_i hl
  split at h
  ·rename_i a b l ho
   cases h
   have hp:i<s.size:=vd (by
    rcases Nat.eq_zero_or_pos (pk s i).toNat with h|h
    ·rw[h]at hl;exact absurd hl (by decide)
    ·exact h)
   by_cases hd:bJ (pk s i)=true
   ·have hr:=jx hd;refine⟨hl,by simp;omega,?_,?_,?_,?_,?_⟩
    all_goals simp only[hd,if_true]
    all_goals (intros;omega)
   ·refine⟨hl,by simp;omega,?_,?_,?_,?_,?_⟩
    all_goals simp only[hd,if_false,Bool.false_eq_true]
    all_goals
     unfold dY at ho
     repeat' split at ho
    all_goals first
     | (cases ho;done)
     |skip
    all_goals (intros;first|omega|skip)
    all_goals (cases ho;first|omega| (have:=eC ‹_›;omega) | (have:=jW ‹_›;omega) | (have h1:=eC ‹eY s 10 (i+1)=_›;have h2:=eC ‹eY s 10 _=Except.ok (_,j)›;omega))
  ·cases h
 ·cases h
theorem vS {s:ByteArray} {cs:List Cls} {ns nl:Nat} (hs:s.size≤2000): ∀{k:Nat} {t:List Ins} {m i:Nat} {r:List Ins} {j:Nat},(∀x∈t,WfN cs ns nl x)→dQ s cs ns nl k t m i= .ok (r,j)→ ∀x∈r,WfN cs ns nl x:=by
 intro k
 induction k with
 |zero=>
  intro t m i r j hw h
  cases m with
  |zero=>cases h;exact hw
  |succ m=>cases h
 |succ k ih=>
  intro t m i r j hw h
  cases m with
  |zero=>cases h;exact hw
  |succ m=>
   simp only[dQ]at h
   cases hx:lM s cs ns nl i with
   |error l=>rw[hx]at h;cases h
   |ok y=>
    rw[hx]at h
    exact ih (fun z hz=>by
     rcases List.mem_append.1 hz with hz|hz
     ·exact hw z hz
     ·simp at hz;subst hz;exact zZ hs hx) h
theorem ry {s:ByteArray} {cs:List Cls} {ns nl i:Nat} {r:List Ins} {j:Nat} (hs:s.size≤2000) (h:mi s cs ns nl i= .ok (r,j)):(∀x∈r,WfN cs ns nl x)∧full 1 r∧r.length≤24:=by
 unfold mi at h
 split at h
 ·cases h
 ·rename_i t l hn
  split at h
  ·cases h
   obtain⟨u,h1,h2,h3⟩:=rq hn;simp at h1;subst h1;exact⟨vS hs (by simp) hn,h2,h3⟩
  ·cases h
theorem z6 {s:ByteArray} {cs:List Cls} {gs:List Sig} (hs:s.size≤2000) (hn:cs.length≤4) (hg: ∀g∈gs,cG cs.length g.arg=true∧cG cs.length g.ret=true): ∀{k:Nat} {bs:List Bod} {i:Nat} {r:List Bod} {j:Nat},(∀b∈bs,ki cs gs b)→kh s cs gs k bs i= .ok (r,j)→(∀b∈r,ki cs gs b)∧r.length≤k+bs.length:=by
 intro k
 induction k with
 |zero=>
  intro bs i r j hw h;unfold kh at h
  split at h
  ·cases h;exact⟨hw,by omega⟩
  ·cases h
 |succ k ih=>
  intro bs i r j hw h;unfold kh at h
  split at h
  ·cases h;exact⟨hw,by omega⟩
  ·split at h
   ·cases h
   ·rename_i x l1 h1
    split at h
    ·cases h
    ·rename_i m l2 h2
     split at h
     ·cases h
     ·split at h
      ·cases h
      ·rename_i t l3 h3
       split at h
       ·cases h
       ·rename_i is l4 h4
        have hx:=jW h1;have hm:=eC h2;have ht:=kR h3;have ha:=kS (by simp) h3;have hc:=ry hs h4
        have:=ih (fun b hb=>by
         rcases List.mem_append.1 hb with hb|hb
         ·exact hw b hb
         ·rw[List.mem_singleton]at hb;subst hb;refine⟨by simpa using hc.1,hc.2.1,hc.2.2,⟨by simp at ht⊢;omega,?_⟩,Or.inr ⟨by simp,by simp;omega,by simp,by simp;omega⟩⟩;intro c a0;rw[List.mem_cons,List.mem_cons]at a0;rcases a0 with rfl|rfl|a0
          ·exact mZ hx hn
          ·unfold kk;rw[List.getElem?_eq_getElem (by omega)];exact(hg _ (List.getElem_mem _)).1
          ·exact ha c a0) h
        simp at this;exact⟨this.1,by omega⟩
theorem rz {s:ByteArray} {im:Img} (hs:s.size≤2000) (h:gL s= .ok im):gH im:=by
 unfold gL at h
 split at h
 ·cases h
 ·rename_i cs l1 h1
  split at h
  ·cases h
  ·rename_i gs l2 h2
   split at h
   ·cases h
   ·rename_i bs l3 h3
    split at h
    ·cases h
    ·rename_i t l4 h4
     split at h
     ·cases h
     ·rename_i is l5 h5
      split at h
      ·cases h
      ·cases h
       have hc:=va h1;have a3:=rh h2;have a2:=rj (by simp) h2;have hb:=z6 hs hc.2 a2 (by simp) h3;have ht:=kR h4;have a4:=kS (by simp) h4;have a1:=ry hs h5;refine⟨hc.1,hc.2,by simpa using a3,a2,?_,by simp at hb⊢;omega⟩;intro b a0;simp at a0;rcases a0 with a0|rfl
       ·exact hb.1 b a0
       ·exact⟨a1.1,a1.2.1,a1.2.2,⟨by simp at ht⊢;omega,a4⟩,Or.inl ⟨rfl,rfl⟩⟩
end Sp
section
open Go Sp
theorem dh {cs:List Cls} (hw:WfC cs) {p:Int} (hp:0≤p):cR cs p<p∧ -1≤cR cs p:=by
 unfold cR
 cases h:cs[p.toNat]? with
 |none=>simp;omega
 |some c=>
  have:=hw _ _ h;simp;omega
theorem tN {cs:List Cls} (hw:WfC cs): ∀{f:Nat} {p y:Int},p<f→bO cs f p y=bO cs (f+1) p y:=by
 intro f
 induction f with
 |zero=>intro p y h;simp[bO];intro h';omega
 |succ f ih=>
  intro p y h;rw[bO,bO]
  by_cases h0:p<0
  ·simp[h0]
  ·simp only[h0,if_false]
   by_cases hy:p=y
   ·simp[hy]
   ·simp only[hy,if_false];have:=dh hw (p:=p) (by omega);exact ih (by omega)
theorem eu {cs:List Cls} (hw:WfC cs) {x y:Int} (h0:0≤x) (h1:x≤4):bO cs 5 x y=true↔x=y∨bO cs 5 (cR cs x) y=true:=by
 rw[bO];simp only[if_neg (show¬x<0 by omega)]
 by_cases hy:x=y
 ·simp[hy]
 ·simp only[hy,if_false,false_or];have:=dh hw h0;rw[tN hw (by omega:cR cs x<(4:Nat))]
theorem jy {cs:List Cls} (hw:WfC cs) {x y:Int} (h:x<0):bO cs 5 x y=false:=by
 rw[bO];simp[h]
theorem nj {cs:List Cls} (hw:WfC cs) {x:Int} (h:0≤x):bO cs 5 x x=true:=by
 rw[bO];simp;omega
theorem tO {cs:List Cls} (hw:WfC cs): ∀(k:Nat) {x y:Int},x≤k→k≤4→bO cs 5 x y=true→0≤y∧y≤x:=by
 intro k
 induction k with
 |zero=>
  intro x y hx hk h
  by_cases h0:x<0
  ·rw[jy hw h0]at h;cases h
  ·rcases(eu hw (by omega) (by omega)).1 h with rfl|h
   ·omega
   ·have:=dh hw (p:=x) (by omega);rw[jy hw (by omega)]at h;cases h
 |succ k ih=>
  intro x y hx hk h
  by_cases h0:x<0
  ·rw[jy hw h0]at h;cases h
  ·rcases(eu hw (by omega) (by omega)).1 h with rfl|h
   ·omega
   ·have:=dh hw (p:=x) (by omega);have:=ih (by omega) (by omega) h;omega
theorem vn {cs:List Cls} (hw:WfC cs): ∀(k:Nat) {x y z:Int},x≤k→k≤4→bO cs 5 x y=true→bO cs 5 y z=true→bO cs 5 x z=true:=by
 intro k
 induction k with
 |zero=>
  intro x y z hx hk h h'
  by_cases h0:x<0
  ·rw[jy hw h0]at h;cases h
  ·rcases(eu hw (by omega) (by omega)).1 h with rfl|h
   ·exact h'
   ·have:=dh hw (p:=x) (by omega);rw[jy hw (by omega)]at h;cases h
 |succ k ih=>
  intro x y z hx hk h h'
  by_cases h0:x<0
  ·rw[jy hw h0]at h;cases h
  ·rcases(eu hw (by omega) (by omega)).1 h with rfl|h
   ·exact h'
   ·have:=dh hw (p:=x) (by omega);exact(eu hw (by omega) (by omega)).2 (Or.inr (ih (by omega) (by omega) h h'))
theorem tP {cs:List Cls} (hw:WfC cs): ∀{f:Nat} {p y:Int},p<f→f≤5→p≤3→
  (km cs y f p=45∧ ∀q,bO cs 5 p q=true→bO cs 5 y q=false)∨
  ∃q:Nat,q≤3∧km cs y f p=UInt8.ofNat (65+q)∧bO cs 5 p q=true∧bO cs 5 y q=true∧ ∀r,bO cs 5 p r=true→bO cs 5 y r=true→bO cs 5 q r=true:=by
 intro f
 induction f with
 |zero=>intro p y h _ _;left;exact⟨rfl,fun q hq=>by rw[jy hw (by omega)]at hq;cases hq⟩
 |succ f ih=>
  intro p y h hf a0;rw[km]
  by_cases h0:p<0
  ·left
   rw[if_pos h0];exact⟨rfl,fun q hq=>by rw[jy hw h0]at hq;cases hq⟩
  ·rw[if_neg h0]
   by_cases hy:bO cs 5 y p=true
   ·right
    rw[if_pos hy];refine⟨p.toNat,by omega,rfl,?_,?_,?_⟩
    ·rw[Int.toNat_of_nonneg (by omega)];exact nj hw (by omega)
    ·rw[Int.toNat_of_nonneg (by omega)];exact hy
    ·intro r hr _;rw[Int.toNat_of_nonneg (by omega)];exact hr
   ·rw[if_neg hy];have:=dh hw (p:=p) (by omega);rcases ih (p:=cR cs p) (y:=y) (by omega) (by omega) (by omega)with⟨h1,h2⟩ | ⟨q,hq,h1,h2,h3,h4⟩
    ·left
     refine⟨h1,fun q hq=> ?_⟩;rcases(eu hw (by omega) (by omega)).1 hq with rfl|hq
     ·simpa using hy
     ·exact h2 q hq
    ·right
     refine⟨q,hq,h1,(eu hw (by omega) (by omega)).2 (Or.inr h2),h3,fun r hr hr'=> ?_⟩;rcases(eu hw (by omega) (by omega)).1 hr with rfl|hr
     ·exact absurd hr' hy
     ·exact h4 r hr hr'
abbrev kl (c:UInt8):Int:=(c.toNat:Int)-65
theorem aU {cs:List Cls} {a b:UInt8}:bP cs a b=true↔a=b∨b.toNat=45∨(isC b=true∧a.toNat=122)∨(isC a=true∧isC b=true∧bO cs 5 (kl a) (kl b)=true):=by
 unfold bP;have e:a=b↔a.toNat=b.toNat:=UInt8.toNat_inj.symm;rw[e]
 by_cases h1:a.toNat=b.toNat∨b.toNat=45
 ·simp only[if_pos h1,true_iff];rcases h1 with h|h<;>simp[h]
 ·rw[if_neg h1];have a0:=not_or.1 h1;simp only[a0.1,a0.2,false_or]
  by_cases hb:isC b=false
  ·simp[hb]
  ·have a1:isC b=true:=by simpa using hb
   simp only[hb,if_false,a1,true_and]
   by_cases ha:a.toNat=122
   ·simp[ha]
   ·simp only[ha,if_false,false_or]
    by_cases hc:isC a=false
    ·simp[hc]
    ·have a2:isC a=true:=by simpa using hc
     simp[hc,a2]
theorem fM {cs:List Cls} (a:UInt8):bP cs a a=true:=aU.2 (Or.inl rfl)
theorem ix {cs:List Cls} (hw:WfC cs) {c:UInt8} (h:isC c=true):0≤kl c∧kl c≤3:=by
 rw[bL]at h;unfold kl;omega
theorem kD {cs:List Cls} (hw:WfC cs) {a b c:UInt8} (h:bP cs a b=true) (h':bP cs b c=true):bP cs a c=true:=by
 rw[aU]at h h';rw[aU];rcases h with rfl|h| ⟨h1,h2⟩ | ⟨h1,h2,h3⟩
 ·exact h'
 ·rcases h' with rfl|h'| ⟨h1,h2⟩ | ⟨h1,h2,h3⟩
  ·exact Or.inr (Or.inl h)
  ·exact Or.inr (Or.inl h')
  ·omega
  ·rw[bL]at h1;omega
 ·rcases h' with rfl|h'| ⟨h3,h4⟩ | ⟨h3,h4,h5⟩
  ·exact Or.inr (Or.inr (Or.inl ⟨h1,h2⟩))
  ·exact Or.inr (Or.inl h')
  ·rw[bL]at h1;omega
  ·exact Or.inr (Or.inr (Or.inl ⟨h4,h2⟩))
 ·rcases h' with rfl|h'| ⟨h4,h5⟩ | ⟨h4,h5,h6⟩
  ·exact Or.inr (Or.inr (Or.inr ⟨h1,h2,h3⟩))
  ·exact Or.inr (Or.inl h')
  ·rw[bL]at h2;omega
  ·have:=ix hw h1;exact Or.inr (Or.inr (Or.inr ⟨h1,h5,vn hw 4 (by omega) (by omega) h3 h6⟩))
theorem pq {cs:List Cls} (hw:WfC cs) {a b:UInt8} (h:bP cs a b=true) (h':bP cs b a=true):a=b:=by
 rw[aU]at h h';have e:a.toNat=b.toNat→a=b:=UInt8.toNat_inj.1;rcases h with h|h| ⟨h1,h2⟩ | ⟨h1,h2,h3⟩
 ·exact h
 ·rcases h' with h'|h'| ⟨h1,h2⟩ | ⟨h1,h2,h3⟩
  ·exact h'.symm
  ·exact e (by omega)
  ·omega
  ·rw[bL]at h1;omega
 ·rcases h' with h'|h'| ⟨h3,h4⟩ | ⟨h3,h4,h5⟩
  ·exact h'.symm
  ·omega
  ·rw[bL]at h1;omega
  ·rw[bL]at h4;omega
 ·rcases h' with h'|h'| ⟨h4,h5⟩ | ⟨h4,h5,h6⟩
  ·exact h'.symm
  ·rw[bL]at h1;omega
  ·rw[bL]at h2;omega
  ·have r1:=ix hw h1;have r2:=ix hw h2;have:=tO hw 4 (by omega) (by omega) h3;have:=tO hw 4 (by omega) (by omega) h6
   apply e
   unfold kl at*;omega
theorem tQ {cs:List Cls} (hw:WfC cs) {q:Nat} (hq:q≤3):isC (UInt8.ofNat (65+q))=true∧kl (UInt8.ofNat (65+q))=q:=by
 have h:(UInt8.ofNat (65+q)).toNat=65+q:=by simp;omega
 rw[bL];unfold kl;omega
theorem lO {cs:List Cls} (hw:WfC cs) (a b:UInt8):bP cs a (iv cs a b)=true∧bP cs b (iv cs a b)=true∧ ∀c,bP cs a c=true→bP cs b c=true→bP cs (iv cs a b) c=true:=by
 unfold iv
 by_cases h1:bP cs a b=true
 ·rw[if_pos h1];exact⟨h1,fM _,fun c _ h=>h⟩
 rw[if_neg h1]
 by_cases h2:bP cs b a=true
 ·rw[if_pos h2];exact⟨fM _,h2,fun c h _=>h⟩
 rw[if_neg h2];have top: ∀x:UInt8,bP cs x 45=true:=fun x=>aU.2 (Or.inr (Or.inl rfl))
 by_cases h3:isC a=false∨isC b=false
 ·rw[if_pos h3];refine⟨top _,top _,fun c ha hb=> ?_⟩;rw[aU]at ha hb
  have hc:c.toNat=45:=by
   rcases ha with rfl|ha| ⟨p1,p2⟩ | ⟨p1,p2,p3⟩
   ·exact absurd (aU.2 hb) h2
   ·exact ha
   ·rcases hb with rfl|hb| ⟨q1,q2⟩ | ⟨q1,q2,q3⟩
    ·exact absurd (aU.2 (Or.inr (Or.inr (Or.inl ⟨p1,p2⟩)))) h1
    ·exact hb
    ·exact absurd (aU.2 (Or.inl (UInt8.toNat_inj.1 (by omega)))) h1
    ·exact absurd (aU.2 (Or.inr (Or.inr (Or.inl ⟨q1,p2⟩)))) h1
   ·rcases hb with rfl|hb| ⟨q1,q2⟩ | ⟨q1,q2,q3⟩
    ·exact absurd (aU.2 (Or.inr (Or.inr (Or.inr ⟨p1,p2,p3⟩)))) h1
    ·exact hb
    ·exact absurd (aU.2 (Or.inr (Or.inr (Or.inl ⟨p1,q2⟩)))) h2
    ·rcases h3 with h3|h3
     ·rw[h3]at p1;cases p1
     ·rw[h3]at q1;cases q1
  exact aU.2 (Or.inr (Or.inl hc))
 rw[if_neg h3];have ha:isC a=true:=by have:=not_or.1 h3;simpa using this.1
 have hb:isC b=true:=by have:=not_or.1 h3;simpa using this.2
 have r1:=ix hw ha;have r2:=ix hw hb;have hp:=dh hw (p:=kl a) r1.1
 have base: ∀c,bP cs a c=true→bP cs b c=true→c.toNat=45∨(isC c=true∧bO cs 5 (cR cs (kl a)) (kl c)=true∧bO cs 5 (kl b) (kl c)=true):=by
  intro c a1 a0;rw[aU]at a1 a0;rcases a1 with rfl|a1| ⟨p1,p2⟩ | ⟨p1,p2,p3⟩
  ·exact absurd (aU.2 a0) h2
  ·exact Or.inl a1
  ·rw[bL]at ha;omega
  ·rcases a0 with rfl|a0| ⟨q1,q2⟩ | ⟨q1,q2,q3⟩
   ·exact absurd (aU.2 (Or.inr (Or.inr (Or.inr ⟨p1,p2,p3⟩)))) h1
   ·exact Or.inl a0
   ·rw[bL]at hb;omega
   ·rcases(eu hw r1.1 (by omega)).1 p3 with h|h
    ·have:a=c:=by
      apply UInt8.toNat_inj.1
      unfold kl at h;omega
     subst this;exact absurd (aU.2 (Or.inr (Or.inr (Or.inr ⟨q1,q2,q3⟩)))) h2
    ·exact Or.inr ⟨p2,h,q3⟩
 rcases tP hw (f:=5) (p:=cR cs (kl a)) (y:=kl b) (by omega) (by omega) (by omega)with⟨e,a2⟩ | ⟨q,hq,e,e1,e2,e3⟩
 ·rw[show km cs ((b.toNat:Int)-65) 5 (cR cs ((a.toNat:Int)-65))=45 from e];refine⟨top _,top _,fun c a1 a0=> ?_⟩;rcases base c a1 a0 with h| ⟨_,h4,h5⟩
  ·exact aU.2 (Or.inr (Or.inl h))
  ·rw[a2 _ h4]at h5;cases h5
 ·rw[show km cs ((b.toNat:Int)-65) 5 (cR cs ((a.toNat:Int)-65))=UInt8.ofNat (65+q)from e];obtain⟨l1,l2⟩:=tQ hw hq;refine⟨?_,?_,fun c a1 a0=> ?_⟩
  ·rw[aU,l2];exact Or.inr (Or.inr (Or.inr ⟨ha,l1,(eu hw r1.1 (by omega)).2 (Or.inr e1)⟩))
  ·rw[aU,l2];exact Or.inr (Or.inr (Or.inr ⟨hb,l1,e2⟩))
  ·rcases base c a1 a0 with h| ⟨h3,h4,h5⟩
   ·exact aU.2 (Or.inr (Or.inl h))
   ·rw[aU,l2];exact Or.inr (Or.inr (Or.inr ⟨l1,h3,e3 _ h4 h5⟩))
end
namespace Sp
def WfF (cs:List Cls):Prop:= ∀(j:Nat) (c:Cls),cs[j]?=some c→0≤c.par→bj cs c.par.toNat<+:c.fields
theorem kW {cs ds:List Cls} {k:Nat} (h:k<cs.length):bj (cs++ds) k=bj cs k:=by
 simp[bj,List.getElem?_append_left h]
theorem rA {s:ByteArray}: ∀{k:Nat} {cs:List Cls} {i:Nat} {r:List Cls} {j:Nat},WfC cs→WfF cs→eZ s k cs i= .ok (r,j)→WfF r:=by
 intro k
 induction k with
 |zero=>
  intro cs i r j hw hf h;unfold eZ at h
  split at h
  ·cases h;exact hf
  ·cases h
 |succ k ih=>
  intro cs i r j hw hf h;unfold eZ at h
  split at h
  ·cases h;exact hf
  ·split at h
   ·cases h
   ·rename_i p l hp
    split at h
    ·cases h
    ·rename_i own m ho
     refine ih (qa hw hp ho) ?_ h;intro j c hj hc;rcases Nat.lt_or_ge j cs.length with hl|hl
     ·rw[List.getElem?_append_left hl]at hj;have h1:=hw j c hj;rw[kW (by omega)];exact hf j c hj hc
     ·rw[List.getElem?_append_right hl]at hj
      cases hk:j-cs.length with
      |succ q=>rw[hk]at hj;simp at hj
      |zero=>
       rw[hk]at hj;simp at hj;subst hj;simp only at hc⊢;have h1:=(p9 hp).2
       have h2:p.toNat<cs.length:=by
        rcases h1 with h1| ⟨_,h1,h2⟩
        ·omega
        ·simp[aO]at h1;omega
       rw[kW h2,inh,if_neg (by omega)];exact List.prefix_append _ _
theorem kX {cs:List Cls} (hw:WfC cs) (hf:WfF cs): ∀(k:Nat) {x y:Int},x≤k→k≤4→x<cs.length→bO cs 5 x y=true→bj cs y.toNat<+:bj cs x.toNat:=by
 intro k
 induction k with
 |zero=>
  intro x y hx hk hl h;have:=tO hw 0 hx hk h;have:x=y:=by omega
  subst this;exact List.prefix_refl _
 |succ k ih=>
  intro x y hx hk hl h;have h0:=tO hw (k+1) hx hk h;rcases(eu hw (by omega) (by omega)).1 h with h1|h1
  ·subst h1;exact List.prefix_refl _
  ·have hp:=dh hw (p:=x) (by omega)
   have a0:0≤cR cs x:=by
    rcases Int.lt_or_le (cR cs x) 0 with h'|h'
    ·rw[jy hw h']at h1;cases h1
    ·exact h'
   refine(ih (by omega) (by omega) (by omega) h1).trans ?_;obtain⟨c,hc⟩: ∃c,cs[x.toNat]?=some c:=⟨_,List.getElem?_eq_getElem (by omega)⟩;have e1:cR cs x=c.par:=by simp[cR,hc]
   have e2:bj cs x.toNat=c.fields:=by simp[bj,hc]
   rw[e1,e2];exact hf _ _ hc (by omega)
def WfL (gs:List Sig) (b:Bod):Prop:=0≤b.cls→ ∃t,b.locals=UInt8.ofNat (65+b.cls.toNat)::ia gs b.meth.toNat::t
theorem yk {s:ByteArray} {cs:List Cls} {gs:List Sig}: ∀{k:Nat} {bs:List Bod} {i:Nat} {r:List Bod} {j:Nat},(∀b∈bs,WfL gs b∧0≤b.cls)→kh s cs gs k bs i= .ok (r,j)→ ∀b∈r,WfL gs b∧0≤b.cls:=by
 intro k
 induction k with
 |zero=>
  intro bs i r j hw h;unfold kh at h
  split at h
  ·cases h;exact hw
  ·cases h
 |succ k ih=>
  intro bs i r j hw h;unfold kh at h
  split at h
  ·cases h;exact hw
  ·split at h
   ·cases h
   ·split at h
    ·cases h
    ·split at h
     ·cases h
     ·split at h
      ·cases h
      ·split at h
       ·cases h
       ·refine ih (fun b hb=> ?_) h;rcases List.mem_append.1 hb with hb|hb
        ·exact hw b hb
        ·rw[List.mem_singleton]at hb;subst hb;exact⟨fun _=>⟨_,rfl⟩,by simp⟩
structure WfE (im:Img):Prop where
 fld:WfF im.classes
 loc: ∀b∈im.bodies,WfL im.sigs b
 main: ∃bs m,im.bodies=bs++ [m]∧m.cls= -1∧ ∀b∈bs,0≤b.cls
theorem vU {s:ByteArray} {im:Img} (h:gL s= .ok im):WfE im:=by
 unfold gL at h
 split at h
 ·cases h
 ·rename_i cs l1 h1
  split at h
  ·cases h
  ·rename_i gs l2 h2
   split at h
   ·cases h
   ·rename_i bs l3 h3
    split at h
    ·cases h
    ·rename_i t l4 h4
     split at h
     ·cases h
     ·rename_i is l5 h5
      split at h
      ·cases h
      ·cases h
       have hb:=yk (fun b hb=>by simp at hb) h3;refine⟨rA (fun j c h=>by simp at h) (fun j c h=>by simp at h) h1,fun b a0=> ?_,⟨bs,_,rfl,rfl,fun b hb'=>(hb b hb').2⟩⟩;simp at a0;rcases a0 with a0|rfl
       ·exact(hb b a0).1
       ·exact fun h=>absurd h (by simp)
theorem vV {s:ByteArray} {im:Img} (h:dZ s= .ok im):WfE im∧(∀b∈im.bodies,∀x∈b.code,x.op.toNat=99→0≤cE im.classes im.bodies x.b 5 x.a):=by
 unfold dZ at h
 split at h
 ·cases h
 ·split at h
  ·cases h
  ·rename_i im' hr
   split at h
   ·cases h
   ·rename_i hn
    cases h
    refine⟨vU hr,fun b hb x hx ho=> ?_⟩;rw[List.findSome?_eq_none_iff]at hn;have h1:=hn b hb;unfold unl at h1;rw[Option.map_eq_none_iff,List.find?_eq_none]at h1;have h2:=h1 x hx;simp[ky,ho]at h2;exact h2
end Sp
end Go.Proofs.YtpfkkmacakjmbaaGreatDoor
