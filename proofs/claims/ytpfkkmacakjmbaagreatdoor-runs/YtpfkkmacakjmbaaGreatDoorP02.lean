import Derived.Test.YtpfkkmacakjmbaaGreatDoorP00
import Derived.Lib.ItoaNum
import Derived.IntWalk
set_option maxRecDepth 100000
set_option maxHeartbeats 6400000
set_option linter.unusedSimpArgs false
set_option linter.unusedVariables false
namespace Go.Proofs.YtpfkkmacakjmbaaGreatDoor
section
open Go Go.RowKit Sp
attribute [local go_sem ↓] Go.wp_at_zero Go.wp_at_succ
theorem xM (e:Int) (w:World):
  Calls Tryz.prog 21 #[.int .i64 e] w fun en w'=>en= .returned (.int .i64 e)∧w'=w:=by
 go_in
 go_wp2_with fail
 all_goals go_ret
 all_goals exact⟨rfl,rfl⟩
structure Bl (w:World) (b o:Nat) (kd:Int) (s:ByteArray):Prop where
 rest: ∃(x y z:Int) (t u:ByteArray),w.cell? ⟨b,o,none⟩=some (.int .i64 kd)∧w.cell? ⟨b,o+1,none⟩=some (.int .i64 x)∧w.cell? ⟨b,o+2,none⟩=some (.int .i64 y)∧w.cell? ⟨b,o+3,none⟩=some (.int .i64 z)∧
  w.cell? ⟨b,o+4,none⟩=some (.string s)∧w.cell? ⟨b,o+5,none⟩=some (.string t)∧w.cell? ⟨b,o+6,none⟩=some (.string u)
 short:s.size≤maxLen
def vJ (w:World) (ao:Option Addr) (n:Nat):Prop:=
 n≤maxLen∧(0<n→ ∃b o,ao=some ⟨b,o,none⟩∧b<w.heap.size∧ ∀k,k<n→ ∃kd s,Bl w b (o+k*7) kd s)
theorem sp (I:World→Prop) (hI: ∀w w',I w→But (fun _=>False) w w'→I w') (K:Int) (hP: ∀(x y z:Int) (s t u:ByteArray) (w:World),I w→s.size≤maxLen→Calls Tryz.prog 27 #[.agg #[.int .i64 K,.int .i64 x,.int .i64 y,.int .i64 z,.string s,.string t,.string u]] w fun en w'=>en= .returned (.bool true)∧But (fun _=>False) w w') (ao:Option Addr) (n cap:Nat) (w:World) (hw:I w) (hO:vJ w ao n):
  Calls Tryz.prog 15 #[.slice ao n cap,.int .i64 K,.int .i64 K] w fun en w'=>en= .returned (.int .i64 (-1))∧But (fun _=>False) w w':=by
 have HP:=hid (fun x y z s t u w1 (hB:But (fun _=>False) w w1)=>hP x y z s t u w1 (hI w w1 hw hB));clear hP hI hw
 go_in
 go_wp2_with fail;have hn:n≤9223372036854775807:=hO.1
 go_loopg [7] n (fun mm is wr=> ∃(k:Nat),is= .int .i64 k∧k≤n∧k+mm≤n∧n≤k+mm∧But (fun _=>False) w wr)
 case atStart=>exact⟨0,rfl,by omega,by omega,by omega,But.refl _ _⟩
 case round=>
  obtain⟨k,rfl,a6,a3,a7,a0⟩:=hrel;clear a3
  by_cases hlt:k<n
  ·have a4:(k:Int)<(n:Int):=by omega
   obtain⟨b,o,rfl,hb,hA⟩:=hO.2 (by omega);obtain⟨kd,s,⟨x,y,z,t,u,q0,q1,q2,q3,q4,q5,q6⟩,hs⟩:=hA k hlt;have a5:b<wr.heap.size:=Nat.lt_of_lt_of_le hb a0.size;rw[←a0.cell (p:=⟨b,_,none⟩) hb (fun h=>h)]at q0 q1 q2 q3 q4 q5 q6;clear hA;have a8:IntKind.i64.wrap ((k:Int)+1)=(k:Int)+1:=(IntWalk.i64_left _).trans (IntWalk.wrap64_in _ ⟨by omega,by omega⟩)
   by_cases hmx:(k:Int)<1152921504606846976
   ·rcases Int.lt_trichotomy kd K with h1|h1|h1
    ·have a1:=a0.trans (But.alloc _ wr (.cells #[.int .i64 kd,.int .i64 x,.int .i64 y,.int .i64 z,.string s,.string t,.string u] 27));have g1:decide (K≤kd)=false:=decide_eq_false (by omega);clear hO hlt hn h1 hb;go_wp2_with fail
     go_roundg (n-(k+1))
     case measure=>omega
     case rel=>exact⟨k+1,by simp,by omega,by omega,by omega,a1⟩
    ·subst h1;have g1:decide (kd≤kd)=true:=decide_eq_true (by omega);go_wp2_with fail;refine(HP.out x y z s t u _ (a0.trans (But.alloc _ _ _)) hs).mono ?_;rintro en w1 ⟨rfl,a2⟩;have a1:=a0.trans ((But.alloc _ _ _).trans a2);clear a2;go_wp2_with fail
     go_roundg (n-(k+1))
     case measure=>omega
     case rel=>exact⟨k+1,by simp,by omega,by omega,by omega,a1⟩
    ·have a1:=a0.trans (But.alloc _ wr (.cells #[.int .i64 kd,.int .i64 x,.int .i64 y,.int .i64 z,.string s,.string t,.string u] 27));have g1:decide (K≤kd)=true:=decide_eq_true (by omega);have g2:decide (kd≤K)=false:=decide_eq_false (by omega);clear hO hlt hn h1 hb;go_wp2_with fail
     go_roundg (n-(k+1))
     case measure=>omega
     case rel=>exact⟨k+1,by simp,by omega,by omega,by omega,a1⟩
   ·go_wp2_with fail;exact cB (.int .i64 (-1)) Tryz.results15 rfl rfl ⟨rfl,a0⟩
  ·have a4: ¬(k:Int)<(n:Int):=by omega
   go_wp2_with fail;exact cB (.int .i64 (-1)) Tryz.results15 rfl rfl ⟨rfl,a0⟩
end
namespace Sp
def bk (cs:List Cls):Nat→Int→Int→Bool
 |0,_,_=>false
 |f+1,x,y=>if x<0 then false else if x=y then true else bk cs f (bZ cs x) y
def isC (c:UInt8):Bool:=decide (65≤c.toNat)&&decide (c.toNat≤68)
def bR (cs:List Cls) (a b:UInt8):Bool:=
 if a.toNat=b.toNat∨b.toNat=45 then true else
 if isC b=false then false else
 if a.toNat=122 then true else
 if isC a=false then false else bk cs 5 ((a.toNat:Int)-65) ((b.toNat:Int)-65)
def fR (cs:List Cls) (y:Int):Nat→Int→UInt8
 |0,_=>45
 |f+1,p=>if p<0 then 45 else if bk cs 5 y p=true then UInt8.ofNat (65+p.toNat)else fR cs y f (bZ cs p)
def gX (cs:List Cls) (a b:UInt8):UInt8:=
 if bR cs a b=true then b else
 if bR cs b a=true then a else
 if isC a=false∨isC b=false then 45 else
 fR cs ((b.toNat:Int)-65) 5 (bZ cs ((a.toNat:Int)-65))
def okT (n:Nat) (c:UInt8):Bool:=cA n c||decide (c.toNat=122)||decide (c.toNat=45)
theorem dA {n:Nat} {c:UInt8}:okT n c=true↔c.toNat=105∨(65≤c.toNat∧c.toNat<65+n)∨c.toNat=122∨c.toNat=45:=by
 simp[okT,cA,aH,or_assoc]
theorem bI {c:UInt8}:isC c=true↔65≤c.toNat∧c.toNat≤68:=by simp[isC]
def isR (c:UInt8):Bool:=decide (c.toNat=122)||isC c
def cZ (cs:List Cls) (stack want:List UInt8):Bool:=
 decide (want.length≤stack.length)&&(List.range want.length).all fun i=>bR cs (stack.getD (stack.length-want.length+i) 0) (want.getD i 0)
def da (cs:List Cls) (a k:Nat):UInt8:=((cs[a]?.map (·.fields)).getD []).getD k 0
def dg (a:Nat):UInt8:=UInt8.ofNat (65+a)
def ip (gs:List Sig) (k:Nat):UInt8:=(gs[k]?.map (·.arg)).getD 0
def fc (gs:List Sig) (k:Nat):UInt8:=(gs[k]?.map (·.ret)).getD 0
def aL (c:Nat):Bool:=[43,45,42,47,60,61].contains c
def aP (cs:List Cls) (gs:List Sig) (b:Bod) (x:Ins):List UInt8:=
 if x.op.toNat=119∨x.op.toNat=102 then [105]else
 if aL x.op.toNat=true then [105,105]else
 if x.op.toNat=103 then [dg x.a]else
 if x.op.toNat=112 then [dg x.a,da cs x.a x.b]else
 if x.op.toNat=99 then [dg x.a,ip gs x.b]else
 if x.op.toNat=116 then(if b.cls<0 then [105]else [fc gs b.meth.toNat])else []
def aZ (cs:List Cls) (gs:List Sig) (x:Ins):List UInt8:=
 if x.op.toNat=107∨x.op.toNat=114∨aL x.op.toNat=true∨x.op.toNat=101 then [105]else
 if x.op.toNat=122 then [122]else
 if x.op.toNat=110∨x.op.toNat=120 then [dg x.a]else
 if x.op.toNat=103 then [da cs x.a x.b]else
 if x.op.toNat=99 then [fc gs x.b]else []
def cg (c:Nat) (stack:List UInt8):Option Nat:=
 if c=101 then
  if stack.length<2∨isR (stack.getD (stack.length-1) 0)=false∨isR (stack.getD (stack.length-2) 0)=false then none else some 2
 else if stack.length<1∨(c=120∧isR (stack.getD (stack.length-1) 0)=false)then none else some 1
def cy (cs:List Cls) (gs:List Sig) (b:Bod) (x:Ins) (stack locals:List UInt8):Option (List UInt8×List UInt8):=
 if x.op.toNat=115∨x.op.toNat=100∨x.op.toNat=101∨x.op.toNat=120 then
  match cg x.op.toNat stack with
  |none=>none
  |some k=>some (stack.take (stack.length-k)++aZ cs gs x,if x.op.toNat=115 then locals.set x.b (stack.getD (stack.length-1) 0)else locals)
 else if x.op.toNat=108 then
  if(locals.getD x.b 0).toNat=45 then none else some (stack++ [locals.getD x.b 0],locals)
 else if cZ cs stack (aP cs gs b x)=true then some (stack.take (stack.length-(aP cs gs b x).length)++aZ cs gs x,locals)
 else none
def bW (cs:List Cls) (a b:List UInt8):List UInt8:=List.zipWith (gX cs) a b
theorem qu {cs:List Cls} {st wa:List UInt8} (h:st.length<wa.length):cZ cs st wa=false:=by
 unfold cZ;rw[Bool.and_eq_false_iff]
 left;simp;omega
theorem vK {cs:List Cls} {st wa:List UInt8} {k:Nat} (hk:k<wa.length) (h:bR cs (st.getD (st.length-wa.length+k) 0) (wa.getD k 0)=false):cZ cs st wa=false:=by
 unfold cZ;rw[Bool.and_eq_false_iff]
 right
 rw[List.all_eq_false];exact⟨k,by simpa using hk,by rw[h];decide⟩
theorem tX {cs:List Cls} {st wa:List UInt8} (hl:wa.length≤st.length) (h: ∀k,k<wa.length→bR cs (st.getD (st.length-wa.length+k) 0) (wa.getD k 0)=true):cZ cs st wa=true:=by
 unfold cZ;rw[Bool.and_eq_true];refine⟨by simpa using hl,?_⟩;rw[List.all_eq_true];intro k hk;exact h k (by simpa using hk)
theorem lx {cs:List Cls} {a b:List UInt8} (h:a.length=b.length):(bW cs a b).length=a.length:=by
 simp[bW,h]
theorem sq {cs:List Cls} {a b:List UInt8} {k:Nat} (ha:k<a.length) (hb:k<b.length):bW cs (a.take (k+1)) (b.take (k+1))=bW cs (a.take k) (b.take k)++ [gX cs (a.getD k 0) (b.getD k 0)]:=by
 unfold bW;rw[List.take_succ_eq_append_getElem ha,List.take_succ_eq_append_getElem hb,List.zipWith_append (by simp;omega)];simp[List.getD,ha,hb]
def bD (x:Ins) (i:Nat):Int×Int:=
 if x.op.toNat=116 then(-1,-1)else
 if x.op.toNat=106 then((x.b:Int),-1)else
 if x.op.toNat=102 then((i:Int)+1,(x.b:Int))else((i:Int)+1,-1)
def dq (cs:List Cls) (a:Option (List UInt8×List UInt8)) (sb lb:List UInt8):Option (List UInt8×List UInt8):=match a with
 |none=>some (sb,lb)
 |some (sa,la)=>if sa.length=sb.length then some (bW cs sa sb,bW cs la lb)else none
def okS (n nl:Nat) (s l:List UInt8):Prop:=(∀c∈s,okT n c=true)∧(∀c∈l,okT n c=true)∧l.length=nl∧s.length≤100
def bc (cs:List Cls) (T:List (Option (List UInt8×List UInt8))×Bool×Bool) (j:Int) (sb lb:List UInt8):List (Option (List UInt8×List UInt8))×Bool×Bool:=
 if T.2.2=true∨j<0 then T else
 if(T.1.length:Int)≤j then(T.1,T.2.1,true)else
 match dq cs (T.1.getD j.toNat none) sb lb with
 |none=>(T.1,T.2.1,true)
 |some m=>if some m=T.1.getD j.toNat none then T else(T.1.set j.toNat (some m),true,false)
theorem gY {cs:List Cls} (hw:WfC cs) {x:Int} (hx:x<cs.length) (h0:0≤x): -1≤bZ cs x∧bZ cs x<cs.length:=by
 unfold bZ;obtain⟨n,rfl⟩:=Int.eq_ofNat_of_zero_le h0;have hn:n<cs.length:=by omega
 rw[Int.toNat_natCast,List.getElem?_eq_getElem hn];have:=hw n _ (List.getElem?_eq_getElem hn);simp;omega
theorem qv {cs:List Cls} {y:Int} (hn:cs.length≤4) (hw:WfC cs): ∀{f:Nat} {p:Int},-1≤p→p<cs.length→okT cs.length (fR cs y f p)=true:=by
 intro f
 induction f with
 |zero=>intro p _ _;simp[fR,okT]
 |succ f ih=>
  intro p h1 h2;unfold fR
  split
  ·simp[okT]
  ·split
   ·rw[dA]
    right;left
    rw[UInt8.toNat_ofNat'];omega
   ·have:=gY hw h2 (by omega);exact ih this.1 this.2
theorem vL {cs:List Cls} {a b:UInt8} (hn:cs.length≤4) (hw:WfC cs) (ha:okT cs.length a=true) (hb:okT cs.length b=true):okT cs.length (gX cs a b)=true:=by
 unfold gX
 split
 ·exact hb
 ·split
  ·exact ha
  ·split
   ·simp[okT]
   ·rename_i h
    have a1:=dA.1 ha
    have a0:isC a=true:=by cases h':isC a with
     |true=>rfl
     |false=>exact absurd (Or.inl h') h
    have:=bI.1 a0;have hr:=gY hw (x:=(a.toNat:Int)-65) (by omega) (by omega);exact qv hn hw hr.1 hr.2
theorem jO (cs:List Cls) (gs:List Sig) (x:Ins):(aZ cs gs x).length≤1:=by
 unfold aZ
 repeat' split
 all_goals simp
def xP (c:UInt8):Bool:=decide (48≤c.toNat)&&decide (c.toNat≤57)
def yI (c:UInt8):Nat:=
 if c.toNat=105 then 3
 else if [43,45,42,47,60,61,101,112,99,44,111].contains c.toNat=true then 2
 else if [115,103,120,119].contains c.toNat=true then 1
 else 0
def sk:Nat→List Ins→Nat
 |0,_=>0
 |_+1,[]=>0
 |m+1,x::t=>1+sk (m+yI x.op) t
def Bm (t:List Ins) (i:Nat):Nat:=i+sk 1 (t.drop i)
inductive V where
 |i (n:Int)
 |z
 |o (k:Nat)
 deriving DecidableEq
def V.K:V→Nat
 | .i _=>105
 | .z=>122
 | .o _=>111
def V.N:V→Int
 | .i n=>n
 | .z=>0
 | .o k=>k
structure Ob where
 cls:Nat
 fs:List V
structure Ev where
 heap:List Ob
 read:Nat
 left:Nat
 out:List UInt8
inductive R where
 |bad (e:Nat) (out:List UInt8)
 |ok (v:V) (l:List V) (s:Ev)
def bN (t:UInt8):V:=if t.toNat=105 then .i 0 else .z
def bz (cs:List Cls) (a:Nat):List UInt8:=(cs[a]?.map (·.fields)).getD []
def bJ (cs:List Cls) (a:Nat):List V:=(bz cs a).map bN
def w32 (n:Int):Int:=RowKit.wrap32 n
def mw (op:Nat) (a b:Int):Int:=
 if op=43 then w32 (a+b)
 else if op=45 then w32 (a-b)
 else if op=42 then w32 (a*b)
 else if op=60 then(if a<b then 1 else 0)
 else(if a=b then 1 else 0)
def eR (s:ByteArray) (i:Nat):Int:=if h:i<s.size then(s[i].toNat:Int)else-1
def Ev.cls (s:Ev) (k:Nat):Nat:=(s.heap[k]?.map (·.cls)).getD 0
def Ev.fs (s:Ev) (k:Nat):List V:=(s.heap[k]?.map (·.fs)).getD []
def Ev.put (s:Ev) (k j:Nat) (v:V):Ev:={s with heap:=s.heap.set k ⟨s.cls k,(s.fs k).set j v⟩}
def Ev.say (s:Ev) (n:Int):Ev:={s with out:=s.out++Lib.itoa n++ [32]}
section
variable (im:Img) (inp:ByteArray)
def eS (op:Nat) (a b:Int) (l:List V) (s:Ev):R:=
 if op=47 then(if b=0 then .bad 7 s.out else .ok (.i (w32 (Int.tdiv a b))) l s)else .ok (.i (mw op a b)) l s
def dB (x:Ins) (k:Nat) (s:Ev):Bod:=im.bodies.getD (cd im.classes im.bodies x.b 5 (s.cls k)).toNat ⟨-1,-1,[],[]⟩
def bA (b:Bod) (vs:List V):List V:=vs++(b.locals.drop vs.length).map bN
end
end Sp
section
open Go Sp
abbrev St:=Option (List UInt8×List UInt8)
abbrev Tn:=List St×Bool×Bool
def eH (im:Img) (bd:Bod) (T:Tn) (i:Nat):Option Tn:=
 match bd.code[i]?,T.1.getD i none with
 |some x,some (s,l)=>
  match cy im.classes im.sigs bd x s l with
  |none=>none
  |some (s',l')=>some (bc im.classes (bc im.classes T (bD x i).1 s' l') (bD x i).2 s' l')
 |_,_=>some T
def cW (im:Img) (bd:Bod):Nat→Nat→Tn→Option Tn
 |0,_,T=>some T
 |f+1,i,T=>if T.2.2=true then some T else
  match eH im bd T i with
  |none=>none
  |some T'=>cW im bd f (i+1) T'
def dS (im:Img) (bd:Bod):Nat→Tn→Option (List St)
 |0,T=>some T.1
 |f+1,T=>if T.2.1=false then some T.1 else
  match cW im bd bd.code.length 0 (T.1,false,T.2.2)with
  |none=>none
  |some T'=>if T'.2.2=true then none else dS im bd f T'
def bP (bd:Bod):List St:=(List.replicate bd.code.length none).set 0 (some ([],bd.locals))
def cG (im:Img) (bd:Bod):Option (List St):=dS im bd 80000 (bP bd,true,false)
def iQ (tb:List St):Nat:=tb.countP Option.isSome
def okZ (nc nl:Nat) (s l:List UInt8):Prop:=(∀c∈s,okT nc c=true)∧(∀c∈l,okT nc c=true)∧l.length=nl
def wfT (nc nl n:Nat) (tb:List St):Prop:=tb.length=n∧ ∀(k:Nat) s l,tb[k]?=some (some (s,l))→okZ nc nl s l∧s.length<iQ tb
theorem jP (tb:List St):iQ tb≤tb.length:=List.countP_le_length
theorem wfT.okS {nc nl n:Nat} {tb:List St} (h:wfT nc nl n tb) (hn:n≤100) (k:Nat) (s l:List UInt8) (hk:tb[k]?=some (some (s,l))):okS nc nl s l:=by
 obtain⟨⟨a,b,c⟩,d⟩:=h.2 k s l hk;have:=jP tb;have:=h.1;exact⟨a,b,c,by omega⟩
theorem qw {tb:List St} {j:Nat} {m:List UInt8×List UInt8} (hj:j<tb.length):iQ (tb.set j (some m))=iQ tb+(if(tb[j]'hj).isSome then 0 else 1):=by
 unfold iQ;rw[List.countP_set hj];have:tb[j].isSome=true→0<tb.countP Option.isSome:=fun h=>List.countP_pos_iff.2 ⟨_,List.getElem_mem hj,h⟩
 by_cases h:tb[j].isSome=true
 ·have:=this h;simp[h];omega
 ·simp[h]
theorem oI {cs:List Cls} (hn:cs.length≤4) (hw:WfC cs): ∀{a b:List UInt8},(∀c∈a,okT cs.length c=true)→(∀c∈b,okT cs.length c=true)→ ∀c∈bW cs a b,okT cs.length c=true:=by
 intro a
 induction a with
 |nil=>intro b _ _ c hc;simp[bW]at hc
 |cons x a ih=>
  intro b ha hb c hc
  cases b with
  |nil=>simp[bW]at hc
  |cons y b=>
   simp only[bW,List.zipWith_cons_cons,List.mem_cons]at hc;rcases hc with rfl|hc
   ·exact vL hn hw (ha _ (by simp)) (hb _ (by simp))
   ·exact ih (fun c h=>ha c (by simp[h])) (fun c h=>hb c (by simp[h])) c hc
theorem er {cs:List Cls} {nl n:Nat} (hn:cs.length≤4) (hw:WfC cs) {T:Tn} {j:Int} {sb lb:List UInt8} (h:wfT cs.length nl n T.1) (hz:okZ cs.length nl sb lb) (hl:sb.length≤iQ T.1):
  wfT cs.length nl n (bc cs T j sb lb).1∧iQ T.1≤iQ (bc cs T j sb lb).1:=by
 unfold bc
 split
 ·exact⟨h,Nat.le_refl _⟩
 split
 ·exact⟨h,Nat.le_refl _⟩
 rename_i h1 h2
 have a0:j.toNat<T.1.length:=by omega
 split
 ·exact⟨h,Nat.le_refl _⟩
 rename_i m hm
 split
 ·exact⟨h,Nat.le_refl _⟩
 have hs:=qw (m:=m) a0;simp only;refine⟨⟨by rw[List.length_set];exact h.1,?_⟩,by omega⟩;intro k s l hk;rw[List.getElem?_set]at hk
 split at hk
 ·rename_i hjk
  subst hjk
  try rw[if_pos a0]at hk
  injection hk with hk;injection hk with hk;subst hk;have a1:T.1.getD j.toNat none=T.1[j.toNat]:=by simp[List.getD,a0]
  rw[a1]at hm
  cases ho:T.1[j.toNat]with
  |none=>
   rw[ho]at hm hs;simp[dq]at hm;obtain⟨rfl,rfl⟩:=hm;simp at hs;exact⟨hz,by omega⟩
  |some p=>
   obtain⟨sa,la⟩:=p;rw[ho]at hm hs;simp only[dq]at hm
   split at hm
   ·rename_i hlen
    injection hm with hm;injection hm with h3 h4;subst h3 h4;have ha:=h.2 j.toNat sa la (by rw[List.getElem?_eq_getElem a0,ho]);simp at hs;refine⟨⟨oI hn hw ha.1.1 hz.1,oI hn hw ha.1.2.1 hz.2.1,?_⟩,?_⟩
    ·rw[lx (by rw[ha.1.2.2,hz.2.2])];exact ha.1.2.2
    ·rw[lx hlen];omega
   ·cases hm
 ·have:=h.2 k s l hk;exact⟨this.1,by omega⟩
theorem jQ (cs:List Cls) (T:Tn) (j:Int) (sb lb:List UInt8):(bc cs T j sb lb).1.length=T.1.length:=by
 unfold bc
 split
 ·rfl
 split
 ·rfl
 split
 ·rfl
 split
 ·rfl
 ·simp
theorem iR {n:Nat} {c:UInt8} (h:cA n c=true):okT n c=true:=by simp[okT,h]
theorem qx {im:Img} (hW:WfI im) {x:Ins} {nl:Nat} (hx:WfX im.classes im.sigs.length nl x): ∀c∈aZ im.classes im.sigs x,okT im.classes.length c=true:=by
 intro c hc
 have hcl: ∀a,a<im.classes.length→okT im.classes.length (dg a)=true:=by
  intro a ha;have:=hW.nc;rw[dA]
  right;left
  have h1:(dg a).toNat=65+a:=by simp[dg];omega
  omega
 unfold aZ at hc
 split at hc
 ·simp at hc;subst hc;simp[dA]
 split at hc
 ·simp at hc;subst hc;simp[dA]
 split at hc
 ·rename_i h
  simp at hc;subst hc;exact hcl _ (hx.cls (by omega))
 split at hc
 ·rename_i h
  simp at hc;subst hc;have h1:=hx.cls (by omega);have h2:=hx.fld (by omega);obtain⟨cl,hcl⟩: ∃cl,im.classes[x.a]?=some cl:=⟨_,List.getElem?_eq_getElem h1⟩;unfold da;rw[hcl];simp only[bS,hcl]at h2;simp only[Option.map_some,Option.getD_some]at h2⊢;have hf:=hW.cls x.a cl hcl
  have hm:cl.fields.getD x.b 0∈cl.fields:=by
   have:cl.fields.getD x.b 0=cl.fields[x.b]'(by simpa using h2):=by simp[List.getD,h2]
   rw[this];exact List.getElem_mem _
  exact iR (jK (by omega) (hf.2.2.2 _ hm))
 split at hc
 ·rename_i h
  simp at hc;subst hc;have h2:=hx.sig h;obtain⟨g,hg⟩: ∃g,im.sigs[x.b]?=some g:=⟨_,List.getElem?_eq_getElem h2⟩;unfold fc;rw[hg];simp only[Option.map_some,Option.getD_some];exact iR (hW.sig g (List.mem_of_getElem? hg)).2
 ·simp at hc
theorem kI {n:Nat} {l:List UInt8} (h: ∀c∈l,okT n c=true) {k:Nat} (hk:k<l.length):okT n (l.getD k 0)=true:=by
 have:l.getD k 0=l[k]:=by simp[List.getD,hk]
 rw[this];exact h _ (List.getElem_mem _)
theorem iS {im:Img} (hW:WfI im) {bd:Bod} {x:Ins} (hx:WfX im.classes im.sigs.length bd.locals.length x) {s l s' l':List UInt8} (hz:okZ im.classes.length bd.locals.length s l) (h:cy im.classes im.sigs bd x s l=some (s',l')):
  okZ im.classes.length bd.locals.length s' l'∧s'.length≤s.length+1:=by
 have hp:=qx hW hx;have a0:=jO im.classes im.sigs x
 have key: ∀k,(∀c∈s.take k++aZ im.classes im.sigs x,okT im.classes.length c=true)∧(s.take k++aZ im.classes im.sigs x).length≤s.length+1:=by
  intro k
  constructor
  ·intro c hc;rw[List.mem_append]at hc;rcases hc with hc|hc
   ·exact hz.1 c (List.mem_of_mem_take hc)
   ·exact hp c hc
  ·simp;omega
 unfold cy at h
 split at h
 ·split at h
  ·cases h
  ·rename_i k hk
   injection h with h;injection h with h1 h2;subst h1;refine⟨⟨(key _).1,?_,?_⟩,(key _).2⟩
   ·intro c hc;rw[←h2]at hc
    split at hc
    ·rename_i h115
     have:=List.mem_or_eq_of_mem_set hc;rcases this with h|h
     ·exact hz.2.1 c h
     ·rw[h]
      apply kI hz.1
      rw[h115]at hk;unfold cg at hk;simp at hk;have:=List.length_pos_iff.2 hk.1;omega
    ·exact hz.2.1 c hc
   ·rw[←h2]
    split
    ·rw[List.length_set];exact hz.2.2
    ·exact hz.2.2
 split at h
 ·split at h
  ·cases h
  ·rename_i h108 _
   injection h with h;injection h with h1 h2;subst h1 h2;refine⟨⟨?_,hz.2⟩,by simp⟩;intro c hc;rw[List.mem_append]at hc;rcases hc with hc|hc
   ·exact hz.1 c hc
   ·simp at hc;subst hc;have:=kI hz.2.1 (k:=x.b) (by rw[hz.2.2];exact hx.loc (Or.inl h108));simpa[List.getD]using this
 split at h
 ·injection h with h;injection h with h1 h2;subst h1 h2;exact⟨⟨(key _).1,hz.2⟩,(key _).2⟩
 ·cases h
theorem qy {im:Img} (hW:WfI im) {bd:Bod} (hb:WfB im.classes im.sigs bd) {n:Nat} {T T':Tn} {i:Nat} (h:wfT im.classes.length bd.locals.length n T.1) (hs:eH im bd T i=some T'):
  wfT im.classes.length bd.locals.length n T'.1:=by
 unfold eH at hs
 split at hs
 ·rename_i x s l hx hst
  split at hs
  ·cases hs
  ·rename_i s' l' he
   injection hs with hs;subst hs
   have hg:T.1[i]?=some (some (s,l)):=by
    simp only[List.getD]at hst
    cases hh:T.1[i]? with
    |none=>rw[hh]at hst;cases hst
    |some o=>rw[hh]at hst;simp at hst;rw[hst]
   have hz:=h.2 i s l hg;have a0:=iS hW (hb.code x (List.mem_of_getElem? hx)) hz.1 he;have h1:=er hW.nc hW.cls (j:=(bD x i).1) h a0.1 (by omega);exact(er hW.nc hW.cls (j:=(bD x i).2) h1.1 a0.1 (by omega)).1
 ·injection hs with hs;subst hs;exact h
theorem eI {im:Img} {bd:Bod} (hb:WfB im.classes im.sigs bd):wfT im.classes.length bd.locals.length bd.code.length (bP bd):=by
 unfold bP;refine⟨by simp,?_⟩;intro k s l hk;have h0:0<(List.replicate bd.code.length (none:St)).length:=by simpa using hb.len.1
 have hs:=qw (m:=([],bd.locals)) h0;rw[List.getElem?_set]at hk
 split at hk
 ·rename_i hk0
  subst hk0
  try rw[if_pos h0]at hk
  injection hk with hk;injection hk with hk;injection hk with h1 h2;subst h1 h2;refine⟨⟨by simp,fun c hc=>iR (hb.loc.2 c hc),rfl⟩,?_⟩;rw[hs];simp
 ·rw[List.getElem?_replicate]at hk
  split at hk<;>simp at hk
def ez (im:Img) (bd:Bod) (f:Nat):Option Tn→Option (List St)
 |none=>none
 |some T'=>if T'.2.2=true then none else dS im bd f T'
theorem kh (im:Img) (bd:Bod) (f:Nat) (tb:List St):dS im bd (f+1) (tb,true,false)=ez im bd f (cW im bd bd.code.length 0 (tb,false,false)):=by
 unfold dS;rw[if_neg (by simp)];simp only
 cases cW im bd bd.code.length 0 (tb,false,false)<;>rfl
theorem f9 (im:Img) (bd:Bod) (f:Nat) (tb:List St) (b:Bool):dS im bd f (tb,false,b)=some tb:=by
 cases f<;>simp[dS]
theorem ki (im:Img) (bd:Bod) (f i:Nat) (T:Tn) (h:T.2.2=true):cW im bd f i T=some T:=by
 cases f
 ·rfl
 ·simp only[cW,if_pos h]
theorem jo {im:Img} {bd:Bod} {f i:Nat} {T:Tn} (h:T.2.2=false) (hs:eH im bd T i=none):cW im bd (f+1) i T=none:=by
 simp[cW,h,hs]
theorem fE {im:Img} {bd:Bod} {f i:Nat} {T T':Tn} (h:T.2.2=false) (hs:eH im bd T i=some T'):cW im bd (f+1) i T=cW im bd f (i+1) T':=by
 simp[cW,h,hs]
theorem ss {im:Img} {bd:Bod} {T:Tn} {i:Nat} (h:T.1[i]?=some none):eH im bd T i=some T:=by
 unfold eH;rw[List.getD_eq_getElem?_getD,h];simp
theorem kj {im:Img} {bd:Bod} {T:Tn} {i:Nat} {x:Ins} {s l:List UInt8} (hx:bd.code[i]?=some x) (h:T.1[i]?=some (some (s,l))) (he:cy im.classes im.sigs bd x s l=none):eH im bd T i=none:=by
 unfold eH;rw[List.getD_eq_getElem?_getD,h,hx];simp[he]
theorem iT {im:Img} {bd:Bod} {T:Tn} {i:Nat} {x:Ins} {s l s' l':List UInt8} (hx:bd.code[i]?=some x) (h:T.1[i]?=some (some (s,l))) (he:cy im.classes im.sigs bd x s l=some (s',l')):
  eH im bd T i=some (bc im.classes (bc im.classes T (bD x i).1 s' l') (bD x i).2 s' l'):=by
 unfold eH;rw[List.getD_eq_getElem?_getD,h,hx];simp[he]
theorem oJ {im:Img} (hW:WfI im) {bd:Bod} (hb:WfB im.classes im.sigs bd) {n:Nat}: ∀{f i:Nat} {T T':Tn},wfT im.classes.length bd.locals.length n T.1→cW im bd f i T=some T'→wfT im.classes.length bd.locals.length n T'.1:=by
 intro f
 induction f with
 |zero=>intro i T T' h hs;simp[cW]at hs;subst hs;exact h
 |succ f ih=>
  intro i T T' h hs;simp only[cW]at hs
  split at hs
  ·injection hs with hs;subst hs;exact h
  ·split at hs
   ·cases hs
   ·rename_i T1 h1
    exact ih (qy hW hb h h1) hs
theorem su {im:Img} (hW:WfI im) {bd:Bod} (hb:WfB im.classes im.sigs bd) {n:Nat}: ∀{f:Nat} {T:Tn} {tb:List St},wfT im.classes.length bd.locals.length n T.1→dS im bd f T=some tb→wfT im.classes.length bd.locals.length n tb:=by
 intro f
 induction f with
 |zero=>intro T tb h hs;simp[dS]at hs;subst hs;exact h
 |succ f ih=>
  intro T tb h hs;simp only[dS]at hs
  split at hs
  ·injection hs with hs;subst hs;exact h
  ·split at hs
   ·cases hs
   ·rename_i T1 h1
    split at hs
    ·cases hs
    ·exact ih (oJ hW hb (by exact h) h1) hs
theorem oK {im:Img} (hW:WfI im) {bd:Bod} (hb:WfB im.classes im.sigs bd) {tb:List St} (h:cG im bd=some tb):wfT im.classes.length bd.locals.length bd.code.length tb:=
 su hW hb (eI hb) h
theorem dh {cs:List Cls} (hw:WfC cs) {p:Int} (hp:0≤p):bZ cs p<p∧ -1≤bZ cs p:=by
 unfold bZ
 cases h:cs[p.toNat]? with
 |none=>simp;omega
 |some c=>
  have:=hw _ _ h;simp;omega
theorem sw {cs:List Cls} (hw:WfC cs): ∀{f:Nat} {p y:Int},p<f→bk cs f p y=bk cs (f+1) p y:=by
 intro f
 induction f with
 |zero=>intro p y h;simp[bk];intro h';omega
 |succ f ih=>
  intro p y h;rw[bk,bk]
  by_cases h0:p<0
  ·simp[h0]
  ·simp only[h0,if_false]
   by_cases hy:p=y
   ·simp[hy]
   ·simp only[hy,if_false];have:=dh hw (p:=p) (by omega);exact ih (by omega)
theorem eC {cs:List Cls} (hw:WfC cs) {x y:Int} (h0:0≤x) (h1:x≤4):bk cs 5 x y=true↔x=y∨bk cs 5 (bZ cs x) y=true:=by
 rw[bk];simp only[if_neg (show¬x<0 by omega)]
 by_cases hy:x=y
 ·simp[hy]
 ·simp only[hy,if_false,false_or];have:=dh hw h0;rw[sw hw (by omega:bZ cs x<(4:Nat))]
theorem jp {cs:List Cls} (hw:WfC cs) {x y:Int} (h:x<0):bk cs 5 x y=false:=by
 rw[bk];simp[h]
theorem pt {cs:List Cls} (hw:WfC cs) {x:Int} (h:0≤x):bk cs 5 x x=true:=by
 rw[bk];simp;omega
theorem sA {cs:List Cls} (hw:WfC cs): ∀(k:Nat) {x y:Int},x≤k→k≤4→bk cs 5 x y=true→0≤y∧y≤x:=by
 intro k
 induction k with
 |zero=>
  intro x y hx hk h
  by_cases h0:x<0
  ·rw[jp hw h0]at h;cases h
  ·rcases(eC hw (by omega) (by omega)).1 h with rfl|h
   ·omega
   ·have:=dh hw (p:=x) (by omega);rw[jp hw (by omega)]at h;cases h
 |succ k ih=>
  intro x y hx hk h
  by_cases h0:x<0
  ·rw[jp hw h0]at h;cases h
  ·rcases(eC hw (by omega) (by omega)).1 h with rfl|h
   ·omega
   ·have:=dh hw (p:=x) (by omega);have:=ih (by omega) (by omega) h;omega
theorem tJ {cs:List Cls} (hw:WfC cs): ∀(k:Nat) {x y z:Int},x≤k→k≤4→bk cs 5 x y=true→bk cs 5 y z=true→bk cs 5 x z=true:=by
 intro k
 induction k with
 |zero=>
  intro x y z hx hk h h'
  by_cases h0:x<0
  ·rw[jp hw h0]at h;cases h
  ·rcases(eC hw (by omega) (by omega)).1 h with rfl|h
   ·exact h'
   ·have:=dh hw (p:=x) (by omega);rw[jp hw (by omega)]at h;cases h
 |succ k ih=>
  intro x y z hx hk h h'
  by_cases h0:x<0
  ·rw[jp hw h0]at h;cases h
  ·rcases(eC hw (by omega) (by omega)).1 h with rfl|h
   ·exact h'
   ·have:=dh hw (p:=x) (by omega);exact(eC hw (by omega) (by omega)).2 (Or.inr (ih (by omega) (by omega) h h'))
theorem sB {cs:List Cls} (hw:WfC cs): ∀{f:Nat} {p y:Int},p<f→f≤5→p≤3→
  (fR cs y f p=45∧ ∀q,bk cs 5 p q=true→bk cs 5 y q=false)∨
  ∃q:Nat,q≤3∧fR cs y f p=UInt8.ofNat (65+q)∧bk cs 5 p q=true∧bk cs 5 y q=true∧ ∀r,bk cs 5 p r=true→bk cs 5 y r=true→bk cs 5 q r=true:=by
 intro f
 induction f with
 |zero=>intro p y h _ _;left;exact⟨rfl,fun q hq=>by rw[jp hw (by omega)]at hq;cases hq⟩
 |succ f ih=>
  intro p y h hf a0;rw[fR]
  by_cases h0:p<0
  ·left
   rw[if_pos h0];exact⟨rfl,fun q hq=>by rw[jp hw h0]at hq;cases hq⟩
  ·rw[if_neg h0]
   by_cases hy:bk cs 5 y p=true
   ·right
    rw[if_pos hy];refine⟨p.toNat,by omega,rfl,?_,?_,?_⟩
    ·rw[Int.toNat_of_nonneg (by omega)];exact pt hw (by omega)
    ·rw[Int.toNat_of_nonneg (by omega)];exact hy
    ·intro r hr _;rw[Int.toNat_of_nonneg (by omega)];exact hr
   ·rw[if_neg hy];have:=dh hw (p:=p) (by omega);rcases ih (p:=bZ cs p) (y:=y) (by omega) (by omega) (by omega)with⟨h1,h2⟩ | ⟨q,hq,h1,h2,h3,h4⟩
    ·left
     refine⟨h1,fun q hq=> ?_⟩;rcases(eC hw (by omega) (by omega)).1 hq with rfl|hq
     ·simpa using hy
     ·exact h2 q hq
    ·right
     refine⟨q,hq,h1,(eC hw (by omega) (by omega)).2 (Or.inr h2),h3,fun r hr hr'=> ?_⟩;rcases(eC hw (by omega) (by omega)).1 hr with rfl|hr
     ·exact absurd hr' hy
     ·exact h4 r hr hr'
abbrev kl (c:UInt8):Int:=(c.toNat:Int)-65
theorem aO {cs:List Cls} {a b:UInt8}:bR cs a b=true↔a=b∨b.toNat=45∨(isC b=true∧a.toNat=122)∨(isC a=true∧isC b=true∧bk cs 5 (kl a) (kl b)=true):=by
 unfold bR;have e:a=b↔a.toNat=b.toNat:=UInt8.toNat_inj.symm;rw[e]
 by_cases h1:a.toNat=b.toNat∨b.toNat=45
 ·simp only[if_pos h1,true_iff];rcases h1 with h|h<;>simp[h]
 ·rw[if_neg h1];have a0:=not_or.1 h1;simp only[a0.1,a0.2,false_or]
  by_cases hb:isC b=false
  ·simp[hb]
  ·have a1:isC b=true:=by simpa using hb
   simp only[hb,if_false,a1,true_and]
   by_cases ha:a.toNat=122
   ·simp[ha]
   ·simp only[ha,if_false,false_or]
    by_cases hc:isC a=false
    ·simp[hc]
    ·have a2:isC a=true:=by simpa using hc
     simp[hc,a2]
theorem gz {cs:List Cls} (a:UInt8):bR cs a a=true:=aO.2 (Or.inl rfl)
theorem iB {cs:List Cls} (hw:WfC cs) {c:UInt8} (h:isC c=true):0≤kl c∧kl c≤3:=by
 rw[bI]at h;unfold kl;omega
theorem km {cs:List Cls} (hw:WfC cs) {a b c:UInt8} (h:bR cs a b=true) (h':bR cs b c=true):bR cs a c=true:=by
 rw[aO]at h h';rw[aO];rcases h with rfl|h| ⟨h1,h2⟩ | ⟨h1,h2,h3⟩
 ·exact h'
 ·rcases h' with rfl|h'| ⟨h1,h2⟩ | ⟨h1,h2,h3⟩
  ·exact Or.inr (Or.inl h)
  ·exact Or.inr (Or.inl h')
  ·omega
  ·rw[bI]at h1;omega
 ·rcases h' with rfl|h'| ⟨h3,h4⟩ | ⟨h3,h4,h5⟩
  ·exact Or.inr (Or.inr (Or.inl ⟨h1,h2⟩))
  ·exact Or.inr (Or.inl h')
  ·rw[bI]at h1;omega
  ·exact Or.inr (Or.inr (Or.inl ⟨h4,h2⟩))
 ·rcases h' with rfl|h'| ⟨h4,h5⟩ | ⟨h4,h5,h6⟩
  ·exact Or.inr (Or.inr (Or.inr ⟨h1,h2,h3⟩))
  ·exact Or.inr (Or.inl h')
  ·rw[bI]at h2;omega
  ·have:=iB hw h1;exact Or.inr (Or.inr (Or.inr ⟨h1,h5,tJ hw 4 (by omega) (by omega) h3 h6⟩))
theorem oL {cs:List Cls} (hw:WfC cs) {a b:UInt8} (h:bR cs a b=true) (h':bR cs b a=true):a=b:=by
 rw[aO]at h h';have e:a.toNat=b.toNat→a=b:=UInt8.toNat_inj.1;rcases h with h|h| ⟨h1,h2⟩ | ⟨h1,h2,h3⟩
 ·exact h
 ·rcases h' with h'|h'| ⟨h1,h2⟩ | ⟨h1,h2,h3⟩
  ·exact h'.symm
  ·exact e (by omega)
  ·omega
  ·rw[bI]at h1;omega
 ·rcases h' with h'|h'| ⟨h3,h4⟩ | ⟨h3,h4,h5⟩
  ·exact h'.symm
  ·omega
  ·rw[bI]at h1;omega
  ·rw[bI]at h4;omega
 ·rcases h' with h'|h'| ⟨h4,h5⟩ | ⟨h4,h5,h6⟩
  ·exact h'.symm
  ·rw[bI]at h1;omega
  ·rw[bI]at h2;omega
  ·have r1:=iB hw h1;have r2:=iB hw h2;have:=sA hw 4 (by omega) (by omega) h3;have:=sA hw 4 (by omega) (by omega) h6
   apply e
   unfold kl at*;omega
theorem sC {cs:List Cls} (hw:WfC cs) {q:Nat} (hq:q≤3):isC (UInt8.ofNat (65+q))=true∧kl (UInt8.ofNat (65+q))=q:=by
 have h:(UInt8.ofNat (65+q)).toNat=65+q:=by simp;omega
 rw[bI];unfold kl;omega
theorem oM {cs:List Cls} (hw:WfC cs) (a b:UInt8):bR cs a (gX cs a b)=true∧bR cs b (gX cs a b)=true∧ ∀c,bR cs a c=true→bR cs b c=true→bR cs (gX cs a b) c=true:=by
 unfold gX
 by_cases h1:bR cs a b=true
 ·rw[if_pos h1];exact⟨h1,gz _,fun c _ h=>h⟩
 rw[if_neg h1]
 by_cases h2:bR cs b a=true
 ·rw[if_pos h2];exact⟨gz _,h2,fun c h _=>h⟩
 rw[if_neg h2];have top: ∀x:UInt8,bR cs x 45=true:=fun x=>aO.2 (Or.inr (Or.inl rfl))
 by_cases h3:isC a=false∨isC b=false
 ·rw[if_pos h3];refine⟨top _,top _,fun c ha hb=> ?_⟩;rw[aO]at ha hb
  have hc:c.toNat=45:=by
   rcases ha with rfl|ha| ⟨p1,p2⟩ | ⟨p1,p2,p3⟩
   ·exact absurd (aO.2 hb) h2
   ·exact ha
   ·rcases hb with rfl|hb| ⟨q1,q2⟩ | ⟨q1,q2,q3⟩
    ·exact absurd (aO.2 (Or.inr (Or.inr (Or.inl ⟨p1,p2⟩)))) h1
    ·exact hb
    ·exact absurd (aO.2 (Or.inl (UInt8.toNat_inj.1 (by omega)))) h1
    ·exact absurd (aO.2 (Or.inr (Or.inr (Or.inl ⟨q1,p2⟩)))) h1
   ·rcases hb with rfl|hb| ⟨q1,q2⟩ | ⟨q1,q2,q3⟩
    ·exact absurd (aO.2 (Or.inr (Or.inr (Or.inr ⟨p1,p2,p3⟩)))) h1
    ·exact hb
    ·exact absurd (aO.2 (Or.inr (Or.inr (Or.inl ⟨p1,q2⟩)))) h2
    ·rcases h3 with h3|h3
     ·rw[h3]at p1;cases p1
     ·rw[h3]at q1;cases q1
  exact aO.2 (Or.inr (Or.inl hc))
 rw[if_neg h3];have ha:isC a=true:=by have:=not_or.1 h3;simpa using this.1
 have hb:isC b=true:=by have:=not_or.1 h3;simpa using this.2
 have r1:=iB hw ha;have r2:=iB hw hb;have hp:=dh hw (p:=kl a) r1.1
 have base: ∀c,bR cs a c=true→bR cs b c=true→c.toNat=45∨(isC c=true∧bk cs 5 (bZ cs (kl a)) (kl c)=true∧bk cs 5 (kl b) (kl c)=true):=by
  intro c a1 a0;rw[aO]at a1 a0;rcases a1 with rfl|a1| ⟨p1,p2⟩ | ⟨p1,p2,p3⟩
  ·exact absurd (aO.2 a0) h2
  ·exact Or.inl a1
  ·rw[bI]at ha;omega
  ·rcases a0 with rfl|a0| ⟨q1,q2⟩ | ⟨q1,q2,q3⟩
   ·exact absurd (aO.2 (Or.inr (Or.inr (Or.inr ⟨p1,p2,p3⟩)))) h1
   ·exact Or.inl a0
   ·rw[bI]at hb;omega
   ·rcases(eC hw r1.1 (by omega)).1 p3 with h|h
    ·have:a=c:=by
      apply UInt8.toNat_inj.1
      unfold kl at h;omega
     subst this;exact absurd (aO.2 (Or.inr (Or.inr (Or.inr ⟨q1,q2,q3⟩)))) h2
    ·exact Or.inr ⟨p2,h,q3⟩
 rcases sB hw (f:=5) (p:=bZ cs (kl a)) (y:=kl b) (by omega) (by omega) (by omega)with⟨e,a2⟩ | ⟨q,hq,e,e1,e2,e3⟩
 ·rw[show fR cs ((b.toNat:Int)-65) 5 (bZ cs ((a.toNat:Int)-65))=45 from e];refine⟨top _,top _,fun c a1 a0=> ?_⟩;rcases base c a1 a0 with h| ⟨_,h4,h5⟩
  ·exact aO.2 (Or.inr (Or.inl h))
  ·rw[a2 _ h4]at h5;cases h5
 ·rw[show fR cs ((b.toNat:Int)-65) 5 (bZ cs ((a.toNat:Int)-65))=UInt8.ofNat (65+q)from e];obtain⟨l1,l2⟩:=sC hw hq;refine⟨?_,?_,fun c a1 a0=> ?_⟩
  ·rw[aO,l2];exact Or.inr (Or.inr (Or.inr ⟨ha,l1,(eC hw r1.1 (by omega)).2 (Or.inr e1)⟩))
  ·rw[aO,l2];exact Or.inr (Or.inr (Or.inr ⟨hb,l1,e2⟩))
  ·rcases base c a1 a0 with h| ⟨h3,h4,h5⟩
   ·exact aO.2 (Or.inr (Or.inl h))
   ·rw[aO,l2];exact Or.inr (Or.inr (Or.inr ⟨l1,h3,e3 _ h4 h5⟩))
end
namespace Sp
def WfF (cs:List Cls):Prop:= ∀(j:Nat) (c:Cls),cs[j]?=some c→0≤c.par→bz cs c.par.toNat<+:c.fields
theorem kJ {cs ds:List Cls} {k:Nat} (h:k<cs.length):bz (cs++ds) k=bz cs k:=by
 simp[bz,List.getElem?_append_left h]
theorem vM {s:ByteArray}: ∀{k:Nat} {cs:List Cls} {i:Nat} {r:List Cls} {j:Nat},WfC cs→WfF cs→dW s k cs i= .ok (r,j)→WfF r:=by
 intro k
 induction k with
 |zero=>
  intro cs i r j hw hf h;unfold dW at h
  split at h
  ·cases h;exact hf
  ·cases h
 |succ k ih=>
  intro cs i r j hw hf h;unfold dW at h
  split at h
  ·cases h;exact hf
  ·split at h
   ·cases h
   ·rename_i p l hp
    split at h
    ·cases h
    ·rename_i own m ho
     refine ih (kD hw hp ho) ?_ h;intro j c hj hc;rcases Nat.lt_or_ge j cs.length with hl|hl
     ·rw[List.getElem?_append_left hl]at hj;have h1:=hw j c hj;rw[kJ (by omega)];exact hf j c hj hc
     ·rw[List.getElem?_append_right hl]at hj
      cases hk:j-cs.length with
      |succ q=>rw[hk]at hj;simp at hj
      |zero=>
       rw[hk]at hj;simp at hj;subst hj;simp only at hc⊢;have h1:=(pm hp).2
       have h2:p.toNat<cs.length:=by
        rcases h1 with h1| ⟨_,h1,h2⟩
        ·omega
        ·simp[aH]at h1;omega
       rw[kJ h2,inh,if_neg (by omega)];exact List.prefix_append _ _
theorem pu {cs:List Cls} (hw:WfC cs) (hf:WfF cs): ∀(k:Nat) {x y:Int},x≤k→k≤4→x<cs.length→bk cs 5 x y=true→bz cs y.toNat<+:bz cs x.toNat:=by
 intro k
 induction k with
 |zero=>
  intro x y hx hk hl h;have:=sA hw 0 hx hk h;have:x=y:=by omega
  subst this;exact List.prefix_refl _
 |succ k ih=>
  intro x y hx hk hl h;have h0:=sA hw (k+1) hx hk h;rcases(eC hw (by omega) (by omega)).1 h with h1|h1
  ·subst h1;exact List.prefix_refl _
  ·have hp:=dh hw (p:=x) (by omega)
   have a0:0≤bZ cs x:=by
    rcases Int.lt_or_le (bZ cs x) 0 with h'|h'
    ·rw[jp hw h']at h1;cases h1
    ·exact h'
   refine(ih (by omega) (by omega) (by omega) h1).trans ?_;obtain⟨c,hc⟩: ∃c,cs[x.toNat]?=some c:=⟨_,List.getElem?_eq_getElem (by omega)⟩;have e1:bZ cs x=c.par:=by simp[bZ,hc]
   have e2:bz cs x.toNat=c.fields:=by simp[bz,hc]
   rw[e1,e2];exact hf _ _ hc (by omega)
def WfL (gs:List Sig) (b:Bod):Prop:=0≤b.cls→ ∃t,b.locals=UInt8.ofNat (65+b.cls.toNat)::ip gs b.meth.toNat::t
structure Fm where
 q:Nat
 pc:Nat
 stk:List V
 loc:List V
structure Mv where
 fr:List Fm
 ev:Ev
inductive SR where
 |go (m:Mv)
 |bad (e:Nat) (out:List UInt8)
 |fin (v:V) (out:List UInt8)
inductive Rch (hp:List Ob) (roots:Nat→Prop):Nat→Prop where
 |root (k:Nat) (h:roots k):Rch hp roots k
 |field (j k:Nat) (ob:Ob) (h:Rch hp roots j) (hj:hp[j]?=some ob) (hk:V.o k∈ob.fs):Rch hp roots k
noncomputable def ck (hp:List Ob) (roots:Nat→Prop):Nat:=
 (((List.range hp.length).filter (fun k=> @decide (Rch hp roots k) (Classical.propDecidable _))).map (fun k=>1+((hp[k]?.map (·.fs)).getD []).length)).sum
def bX (vs:List V) (ts:List UInt8):List V:=((vs.zip ts).filter (fun p=>decide (p.2.toNat≠45))).map (·.1)
abbrev bU:=List (List St)
def fx (T:bU) (q pc:Nat):St:=((T[q]?.getD [])[pc]?).getD none
def cK (T:bU) (f:Fm):List V:=match fx T f.q f.pc with
 |some (s,l)=>bX f.stk s++bX f.loc l
 |none=> []
def db (T:bU) (fr:List Fm) (k:Nat):Prop:= ∃f∈fr,V.o k∈cK T f
section
variable (im:Img) (inp:ByteArray) (T:bU) (cells:Nat)
def yJ (q pc:Nat):Option Ins:=(im.bodies[q]?).bind fun b=>b.code[pc]?
def Fm.on (f:Fm) (stk:List V):Fm:={f with pc:=f.pc+1,stk:=stk}
def aX (s:List V):V:=s.getD (s.length-1) .z
def dP (s:List V):V:=s.getD (s.length-2) .z
def ba (s:List V):List V:=s.take (s.length-1)
def cH (s:List V):List V:=s.take (s.length-2)
noncomputable def stepX (x:Ins) (f:Fm) (rest:List Fm) (s:Ev):SR:=
 if x.op.toNat=107 then .go ⟨f.on (f.stk++ [.i x.b])::rest,s⟩
 else if x.op.toNat=114 then .go ⟨f.on (f.stk++ [.i (eR inp s.read)])::rest,{s with read:=s.read+1}⟩
 else if x.op.toNat=119 then .go ⟨f.on (ba f.stk)::rest,s.say (aX f.stk).N⟩
 else if x.op.toNat=122 then .go ⟨f.on (f.stk++ [.z])::rest,s⟩
 else if x.op.toNat=100 then .go ⟨f.on (ba f.stk)::rest,s⟩
 else if x.op.toNat=108 then .go ⟨f.on (f.stk++ [f.loc.getD x.b .z])::rest,s⟩
 else if x.op.toNat=115 then .go ⟨{f.on (ba f.stk)with loc:=f.loc.set x.b (aX f.stk)}::rest,s⟩
 else if x.op.toNat=106 then .go ⟨{f with pc:=x.b}::rest,s⟩
 else if x.op.toNat=102 then .go ⟨{f with stk:=ba f.stk,pc:=if(aX f.stk).N=0 then x.b else f.pc+1}::rest,s⟩
 else if x.op.toNat=101 then .go ⟨f.on (cH f.stk++ [if dP f.stk=aX f.stk then .i 1 else .i 0])::rest,s⟩
 else if x.op.toNat=110 then
  if ck s.heap (db T (f::rest))+1+(bJ im.classes x.a).length>cells then .bad 9 s.out
  else .go ⟨f.on (f.stk++ [.o s.heap.length])::rest,{s with heap:=s.heap++ [⟨x.a,bJ im.classes x.a⟩]}⟩
 else if x.op.toNat=120 then
  match aX f.stk with
  | .o k=>if bk im.classes 5 (s.cls k) x.a=true then .go ⟨f.on f.stk::rest,s⟩else .bad 8 s.out
  |_=> .go ⟨f.on f.stk::rest,s⟩
 else if x.op.toNat=103 then
  match aX f.stk with
  | .o k=> .go ⟨f.on (ba f.stk++ [(s.fs k).getD x.b .z])::rest,s⟩
  |_=> .bad 6 s.out
 else if x.op.toNat=112 then
  match dP f.stk with
  | .o k=> .go ⟨f.on (cH f.stk)::rest,s.put k x.b (aX f.stk)⟩
  |_=> .bad 6 s.out
 else if x.op.toNat=99 then
  match dP f.stk with
  | .o k=>if 12≤rest.length+1 then .bad 10 s.out
   else .go ⟨⟨(cd im.classes im.bodies x.b 5 (s.cls k)).toNat,0,[],bA (dB im x k s) [.o k,aX f.stk]⟩::{f with stk:=cH f.stk}::rest,s⟩
  |_=> .bad 6 s.out
 else if x.op.toNat=116 then
  match rest with
  | []=> .fin (aX f.stk) s.out
  |g::r=> .go ⟨g.on (g.stk++ [aX f.stk])::r,s⟩
 else match eS x.op.toNat (dP f.stk).N (aX f.stk).N [] s with
  | .bad e o=> .bad e o
  | .ok v _ s=> .go ⟨f.on (cH f.stk++ [v])::rest,s⟩
noncomputable def mM (m:Mv):SR:=match m.fr with
 | []=> .bad 0 m.ev.out
 |f::rest=>match yJ im f.q f.pc with
  |none=> .bad 0 m.ev.out
  |some x=>stepX im inp T cells x f rest m.ev
noncomputable def gZ:Nat→Mv→List UInt8×Int×Nat
 |0,m=>(m.ev.out,0,5)
 |n+1,m=>match mM im inp T cells m with
  | .go m=>gZ n m
  | .bad e o=>(o,0,e)
  | .fin v o=>(o,v.N,0)
noncomputable def iU (fuel:Nat):List UInt8×Int×Nat:=
 gZ im inp T cells fuel ⟨[⟨im.bodies.length-1,0,[],bA (im.bodies.getD (im.bodies.length-1) ⟨-1,-1,[],[]⟩) []⟩],⟨[],0,0,[]⟩⟩
end
end Sp
end Go.Proofs.YtpfkkmacakjmbaaGreatDoor
