import Derived.Test.YtpfkkmacakjmbaaGreatDoorP08
set_option maxRecDepth 100000
set_option maxHeartbeats 6400000
set_option linter.unusedSimpArgs false
set_option linter.unusedVariables false
namespace Go.Proofs.YtpfkkmacakjmbaaGreatDoor
section
open Go Go.RowKit Sp
def qU (o:Option Nat):Int:=match o with
 |some p=>p
 |none=> -1
theorem yT {cs:List Cls} {bs:List Bod} {c:List Ins} {k:Nat} (hk:k<c.length) (h:cO cs bs c.length c[k]=true) (hno: ∀j (hj:j<c.length),j<k→cO cs bs c.length c[j]=false):unl cs bs c=some c[k].pos:=by
 unfold unl
 have:c.find? (cO cs bs c.length)=some c[k]:=by
  rw[List.find?_eq_some_iff_getElem];exact⟨h,k,hk,rfl,fun j hj=>by rw[hno j (by omega) hj];rfl⟩
 rw[this]
 rfl
theorem wk {cs:List Cls} {bs:List Bod} {c:List Ins} (hno: ∀j (hj:j<c.length),cO cs bs c.length c[j]=false):unl cs bs c=none:=by
 unfold unl
 have:c.find? (cO cs bs c.length)=none:=by
  rw[List.find?_eq_none];intro x hx;obtain⟨j,hj,rfl⟩:=List.getElem_of_mem hx;rw[hno j hj];decide
 rw[this]
 rfl
theorem pG (bi:Nat) (im:Img) (bd:Bod) (vk:Value) (w:World) (hI:bT w bi im) (hW:WfI im) (hbd:WfB im.classes im.sigs bd) (hO:w.ownsRow 0 144 4 vk bd.code.length (cE bd.code)):
  Calls Tryz.prog 53 #[.pointer (some ⟨bi,0,none⟩),.agg #[.int .i64 bd.cls,.int .i64 bd.meth,.string ⟨bd.locals.toArray⟩,vk,.slice none 0 0]] w fun en w'=>en= .returned (.int .i64 (qU (unl im.classes im.bodies bd.code)))∧But (fun _=>False) w w':=by
 obtain⟨R,a8⟩: ∃R,unl im.classes im.bodies bd.code=R:=⟨_,rfl⟩;rw[a8];have b4:Hid (unl im.classes im.bodies bd.code=R):=a8;clear a8;obtain⟨ak,capk,rfl⟩:=au hO;obtain⟨n,hn⟩: ∃n,bd.code.length=n:=⟨_,rfl⟩;rw[hn]at hO⊢;have HN:Hid (bd.code.length=n):=hn;have b1:=hbd.len;rw[hn]at b1;clear hn
 go_in
 go_wp2_with fail;have b9:But (fun _=>False) w (w.alloc (.cells #[.int .i64 bd.cls,.int .i64 bd.meth,.string ⟨bd.locals.toArray⟩,.slice ak n capk,.slice none 0 0] 52)):=But.alloc _ _ _;have e1:(w.alloc (.cells #[.int .i64 bd.cls,.int .i64 bd.meth,.string ⟨bd.locals.toArray⟩,.slice ak n capk,.slice none 0 0] 52)).heap[w.heap.size]?=some (.cells #[.int .i64 bd.cls,.int .i64 bd.meth,.string ⟨bd.locals.toArray⟩,.slice ak n capk,.slice none 0 0] 52):=heap_alloc_new _ _;generalize (w.alloc (.cells #[.int .i64 bd.cls,.int .i64 bd.meth,.string ⟨bd.locals.toArray⟩,.slice ak n capk,.slice none 0 0] 52))=w0 at*
 go_loopg [5] n (fun mm ks wr=> ∃(k:Nat),ks= .int .i64 k∧k≤n∧k+mm≤n∧n≤k+mm∧But (fun _=>False) w0 wr∧Hid (∀j (hj:j<bd.code.length),j<k→cO im.classes im.bodies bd.code.length bd.code[j]=false))
 case atStart=>exact⟨0,rfl,by omega,by omega,by omega,But.refl _ _,fun j hj h=>absurd h (by omega)⟩
 case round=>
  obtain⟨k,rfl,e6,e7,e8,hB,HA⟩:=hrel;have b0:wr.heap[w.heap.size]?=some (.cells #[.int .i64 bd.cls,.int .i64 bd.meth,.string ⟨bd.locals.toArray⟩,.slice ak n capk,.slice none 0 0] 52):=hB.kp e1;have g3:=ce3 b0;have g4:=ce4 b0;have a4:But (fun _=>False) w wr:=b9.trans hB;have e5:=ae b0
  by_cases hlt:k<n
  ·have a3:k<bd.code.length:=by rw[HN.out];exact hlt
   have hx:=List.getElem?_eq_getElem a3;have e0:=ar hO a4 (fun _ _ h=>h);obtain⟨g,rfl,e3,e4,a0⟩:=aG e0 (by omega);have q0:=a0 _ _ (fW hx);have q1:=a0 _ _ (fX hx);have q2:=a0 _ _ (fY hx);have q3:=a0 _ _ (fZ hx);have b5:WfX im.classes im.sigs.length bd.locals.length bd.code[k]:=hbd.code _ (List.getElem_mem a3);obtain⟨X,hX⟩: ∃X,bd.code[k]=X:=⟨_,rfl⟩
   have HB:Hid (cO im.classes im.bodies bd.code.length X=true→R=some X.pos):=fun h=>by
    subst hX;rw[←b4.out];exact yT a3 h HA.out
   have a7:Hid (cO im.classes im.bodies bd.code.length X=false→ ∀j (hj:j<bd.code.length),j<k+1→cO im.classes im.bodies bd.code.length bd.code[j]=false):=fun h j hj hjk=>by
    subst hX;rcases Nat.lt_or_ge j k with h'|h'
    ·exact HA.out j hj h'
    ·have:j=k:=by omega
     subst this;exact h
   rw[hX]at q0 q1 q2 q3 b5;clear a0 hx hX;have f0:(k:Int)<(n:Int):=by omega
   by_cases h99:X.op.toNat=99
   ·have t1:((X.op.toNat:Int)==99)=true:=by rw[beq_iff_eq];omega
    have t2:=tf X.op.toNat 106 (by omega);have t3:=tf X.op.toNat 102 (by omega);have f1:X.a<im.classes.length:=b5.cls (by omega);have b2:Hid (X.op.toNat=99):=h99;clear h99;go_wp2_with fail;refine(qT bi im _ _ _ ((hI.but a4).but (But.alloc _ _ _)).hds hW.cls hW.nc hW.nb (by omega) (by omega)).mono ?_;rintro en wx ⟨rfl,a6⟩;rw[a6];clear a6 wx;obtain⟨fr,a9⟩: ∃fr,cd im.classes im.bodies (X.b:Int) 5 (X.a:Int)=fr:=⟨_,rfl⟩;rw[a9];have b3:Hid (cd im.classes im.bodies (X.b:Int) 5 (X.a:Int)=fr):=a9;clear a9
    by_cases hf0:fr<0
    ·have a1:R=some X.pos:=HB.out (by simp[cO,b2.out,b3.out,hf0]);subst a1;go_wp2_with fail;go_ret;exact⟨rfl,a4.trans (But.alloc _ _ _)⟩
    ·have a5:Hid (cO im.classes im.bodies bd.code.length X=false):=by show _=_;simp[cO,b2.out,b3.out];omega
     go_wp2_with fail
     go_roundg (n-(k+1))
     case measure=>omega
     case rel=>exact⟨k+1,by simp,by omega,by omega,by omega,hB.trans (But.alloc _ _ _),a7.out a5.out⟩
   ·have t1:=tf X.op.toNat 99 (by omega)
    by_cases hj:X.op.toNat=106∨X.op.toNat=102
    ·by_cases hb:(n:Int)≤(X.b:Int)
     ·have a1:R=some X.pos:=HB.out (by
       have:bd.code.length≤X.b:=by rw[HN.out];omega
       simp[cO,hj,this])
      subst a1;rcases hj with hj|hj
      ·have t2:((X.op.toNat:Int)==106)=true:=by rw[beq_iff_eq];omega
       clear hj h99;go_wp2_with fail;go_ret;exact⟨rfl,a4.trans (But.alloc _ _ _)⟩
      ·have t2:=tf X.op.toNat 106 (by omega);have t3:((X.op.toNat:Int)==102)=true:=by rw[beq_iff_eq];omega
       clear hj h99;go_wp2_with fail;go_ret;exact⟨rfl,a4.trans (But.alloc _ _ _)⟩
     ·have a5:Hid (cO im.classes im.bodies bd.code.length X=false):=by
       show _=_
       have h1: ¬bd.code.length≤X.b:=by rw[HN.out];omega
       simp[cO,h99,h1]
      have a2:=a7.out a5.out;rcases hj with hj|hj
      ·have t2:((X.op.toNat:Int)==106)=true:=by rw[beq_iff_eq];omega
       have HH:Hid (∀j (hj:j<bd.code.length),j<k+1→cO im.classes im.bodies bd.code.length bd.code[j]=false):=a2;clear hj h99 a2;go_wp2_with fail
       go_roundg (n-(k+1))
       case measure=>omega
       case rel=>exact⟨k+1,by simp,by omega,by omega,by omega,hB.trans (But.alloc _ _ _),HH⟩
      ·have t2:=tf X.op.toNat 106 (by omega);have t3:((X.op.toNat:Int)==102)=true:=by rw[beq_iff_eq];omega
       have HH:Hid (∀j (hj:j<bd.code.length),j<k+1→cO im.classes im.bodies bd.code.length bd.code[j]=false):=a2;clear hj h99 a2;go_wp2_with fail
       go_roundg (n-(k+1))
       case measure=>omega
       case rel=>exact⟨k+1,by simp,by omega,by omega,by omega,hB.trans (But.alloc _ _ _),HH⟩
    ·have t2:=tf X.op.toNat 106 (by omega);have t3:=tf X.op.toNat 102 (by omega)
     have a5:Hid (cO im.classes im.bodies bd.code.length X=false):=by
      show _=_
      simp[cO,h99];omega
     have HH:Hid (∀j (hj:j<bd.code.length),j<k+1→cO im.classes im.bodies bd.code.length bd.code[j]=false):=a7.out a5.out;clear hj h99;go_wp2_with fail
     go_roundg (n-(k+1))
     case measure=>omega
     case rel=>exact⟨k+1,by simp,by omega,by omega,by omega,hB.trans (But.alloc _ _ _),HH⟩
  ·have a1:R=none:=by
    rw[←b4.out];exact wk (fun j hj=>HA.out j hj (by rw[HN.out]at hj;omega))
   subst a1;go_wp2_with fail
   go_loopg [8] 0 (fun mm ks wr'=>ks= .int .i64 0∧wr'=wr)
   case atStart=>exact⟨rfl,rfl⟩
   case round=>
    obtain⟨rfl,e2⟩:=hrel;rw[e2];go_wp2_with fail;go_ret;exact⟨rfl,a4⟩
def wm (R:Except (Nat×Nat) Img) (bi:Nat):Value:=match R with
 | .error (e,p)=> .tuple #[.pointer none,.int .i64 e,.int .i64 p]
 | .ok _=> .tuple #[.pointer (some ⟨bi,0,none⟩),.int .i64 0,.int .i64 0]
def wn (R:Except (Nat×Nat) Img) (bi:Nat) (w':World):Prop:=match R with
 | .error _=>True
 | .ok im=>bT w' bi im∧WfI im
theorem qV {α:Type} {f:α→Option Nat}: ∀{l:List α} {k:Nat} {p:Nat} (hk:k<l.length),f l[k]=some p→(∀j (hj:j<l.length),j<k→f l[j]=none)→l.findSome? f=some p:=by
 intro l
 induction l with
 |nil=>intro k p hk;simp at hk
 |cons x l ih=>
  intro k p hk h a0
  cases k with
  |zero=>simp at h;simp[List.findSome?_cons,h]
  |succ k=>
   have h0:=a0 0 (by simp) (by omega);simp at h0 h;rw[List.findSome?_cons,h0]
   exact ih (by simpa using hk) h (fun j hj hjk=>by
    have:=a0 (j+1) (by simpa using hj) (by omega)
    rwa [List.getElem_cons_succ]at this)
theorem sJ (s:ByteArray) (w:World) (hmax:s.size≤maxLen):
  Calls Tryz.prog 28 #[.string s,.bool false] w fun en w'=>en= .returned (wm (dQ s) w.heap.size)∧But (fun _=>False) w w'∧wn (dQ s) w.heap.size w':=by
 obtain⟨R,a5⟩: ∃R,dQ s=R:=⟨_,rfl⟩;rw[a5];unfold maxLen at hmax
 by_cases hbig:2000<s.size
 ·have a1:R= .error (1,0):=by rw[←a5,dQ,if_pos hbig]
  subst a1;have hb:(2000:Int)<(s.size:Int):=by omega
  clear a5
  go_in
  go_wp2_with fail
  go_ret3
  exact⟨rfl,But.refl _ _,trivial⟩
 have hs:s.size≤2000:=by omega
 have hb: ¬(2000:Int)<(s.size:Int):=by omega
 have a6:Hid (dQ s=R):=a5;clear a5 hbig
 go_in
 go_wp2_with fail;refine(wj s w hs).mono ?_;rintro en w1 ⟨rfl,b0,hp⟩
 cases hread:dC s with
 |error j=>
  have a1:R= .error (2,j):=by rw[←a6.out,dQ,if_neg (by omega),hread]
  subst a1;simp only[wh];have e4:(0:Int)≤(j:Int):=by omega
  clear hp a6 hread;go_wp2_with fail
  go_ret3
  exact⟨rfl,b0,trivial⟩
 |ok im=>
  rw[hread]at hp;have hW:=mK hs hread;simp only[wh];have hI:bT w1 w.heap.size im:=hp;have b3:Hid (dC s= .ok im):=hread;clear hread hp;obtain⟨v0,v1,v2,l,b5,hC,hS,hB,hl,b9⟩:=hI;have hI:bT w1 w.heap.size im:=⟨v0,v1,v2,l,b5,hC,hS,hB,hl,b9⟩;obtain⟨a2,e1,rfl⟩:=au hB;have f0:l.length≤7:=by have:=hW.nb;rw[←hl]at this;simpa using this
  have HL:Hid (l.map (·.1)=im.bodies):=hl;clear hl;go_wp2_with fail
  go_loopg [9] l.length (fun mm ks wr=> ∃(k:Nat),ks= .int .i64 k∧k≤l.length∧k+mm≤l.length∧l.length≤k+mm∧But (fun _=>False) w1 wr∧Hid (∀j (hj:j<l.length),j<k→unl im.classes im.bodies l[j].1.code=none))
  case atStart=>exact⟨0,rfl,by omega,by omega,by omega,But.refl _ _,fun j hj h=>absurd h (by omega)⟩
  case round=>
   obtain⟨k,rfl,e5,e6,e7,a3,HA⟩:=hrel;have d2:=(b5.but a3 (fun h=>h)).c2
   by_cases hlt:k<l.length
   ·have hx:=List.getElem?_eq_getElem hlt;obtain⟨g,rfl,e2,e3,a0⟩:=aG (ar hB a3 (fun _ _ h=>h)) (by omega);have q0:=a0 _ _ (fU hx);have q1:=a0 _ _ (fV hx);have q2:=a0 _ _ (iL hx);have q3:=a0 _ _ (iM hx);have q4:=a0 _ _ (iN hx);have a4:l[k]∈l:=List.getElem_mem hlt;obtain⟨a7,b1⟩:=b9 _ a4;have b2:WfB im.classes im.sigs l[k].1:=hW.bod _ (by rw[←HL.out];exact List.mem_map_of_mem a4)
    have a8:Hid (∀p,unl im.classes im.bodies l[k].1.code=some p→R= .error (3,p)):=fun p hp=>by
     rw[←a6.out,dQ,if_neg (by omega),b3.out];simp only;rw[show im.bodies.findSome? (fun b=>unl im.classes im.bodies b.code)=some p from ?_];rw[←HL.out,List.findSome?_map];rw[HL.out];exact qV hlt hp HA.out
    have a9:Hid (unl im.classes im.bodies l[k].1.code=none→ ∀j (hj:j<l.length),j<k+1→unl im.classes im.bodies l[j].1.code=none):=fun h j hj hjk=>by
     rcases Nat.lt_or_ge j k with h'|h'
     ·exact HA.out j hj h'
     ·have:j=k:=by omega
      subst this;exact h
    obtain⟨X,hX⟩: ∃X,l[k]=X:=⟨_,rfl⟩;rw[hX]at q0 q1 q2 q3 q4 a7 b1 b2 a8 a9;rw[b1]at q4;obtain⟨Xb,Xk,Xt⟩:=X;simp only at q0 q1 q2 q3 q4 a7 b2 a8 a9;obtain⟨ak,capk,rfl⟩:=au a7;clear a0 hx hX a4 b1;have e8:(k:Int)<(l.length:Int):=by omega
    go_wp2_with fail;refine(pG w.heap.size im Xb _ _ (hI.but a3) hW b2 (ar a7 a3 (fun _ _ h=>h))).mono ?_;rintro en w2 ⟨rfl,b4⟩
    cases hu:unl im.classes im.bodies Xb.code with
    |some p=>
     have a1:R= .error (3,p):=a8.out p hu;subst a1;simp only[qU];have f1:(0:Int)≤(p:Int):=by omega
     clear hu q0 q1 q2 q3 q4 d2;go_wp2_with fail
     go_ret3
     exact⟨rfl,(b0.trans a3).trans b4,trivial⟩
    |none=>
     simp only[qU];have HH:=a9.out hu;have e0:Hid (∀j (hj:j<l.length),j<k+1→unl im.classes im.bodies l[j].1.code=none):=HH;clear hu HH q0 q1 q2 q3 q4 d2;go_wp2_with fail
     go_roundg (l.length-(k+1))
     case measure=>omega
     case rel=>exact⟨k+1,by simp,by omega,by omega,by omega,a3.trans b4,e0⟩
   ·have a1:R= .ok im:=by
     rw[←a6.out,dQ,if_neg (by omega),b3.out];simp only;rw[show im.bodies.findSome? (fun b=>unl im.classes im.bodies b.code)=none from ?_];rw[List.findSome?_eq_none_iff];intro b hb;rw[←HL.out]at hb;obtain⟨x,hx,rfl⟩:=List.mem_map.1 hb;obtain⟨j,hj,rfl⟩:=List.getElem_of_mem hx;exact HA.out j hj (by omega)
    subst a1;go_wp2_with fail
    go_ret3
    exact⟨rfl,b0.trans a3,hI.but a3,hW⟩
def fG (w:World) (bi:Nat) (cs:List Cls):Prop:=
 ∃v0 v1 v2,ImB w bi v0 v1 v2∧w.ownsRow 0 203 2 v0 cs.length (cN cs)
theorem bT.cls {w:World} {bi:Nat} {im:Img} (h:bT w bi im):fG w bi im.classes:=by
 obtain⟨v0,v1,v2,l,hI,h0,_⟩:=h;exact⟨v0,v1,v2,hI,h0⟩
theorem fG.but {w w':World} {bi:Nat} {cs:List Cls} (h:fG w bi cs) (hb:But (fun _=>False) w w'):fG w' bi cs:=by
 obtain⟨v0,v1,v2,hI,h0⟩:=h;exact⟨v0,v1,v2,hI.but hb (fun h=>h),ar h0 hb (fun _ _ h=>h)⟩
theorem fG.par {w:World} {bi:Nat} {cs:List Cls} (h:fG w bi cs) (hw:WfC cs) {x:Int} (h0:0≤x) (hx:x<cs.length):
  ∃(g n cap:Nat) (p:Int),w.cell? ⟨bi,0,none⟩=some (.slice (some ⟨g,0,none⟩) n cap)∧x<(n:Int)∧w.cell? ⟨g,x.toNat*2,none⟩=some (.int .i64 p)∧bZ cs x=p∧ -1≤p∧p<cs.length:=by
 obtain⟨v0,v1,v2,hI,hO⟩:=h;obtain⟨a0,cap0,rfl⟩:=au hO;obtain⟨n,rfl⟩:=Int.eq_ofNat_of_zero_le h0;have a5:n<cs.length:=by omega
 have a3:=List.getElem?_eq_getElem a5;obtain⟨g,rfl,a6,a7,a1⟩:=aG hO (by omega);have a4:=gY hw hx h0;have a2:bZ cs (n:Int)=cs[n].par:=by unfold bZ;rw[Int.toNat_natCast,a3];rfl
 refine⟨g,cs.length,cap0,cs[n].par,hI.c0,by omega,?_,a2,?_,?_⟩
 ·rw[Int.toNat_natCast];exact a1 _ _ (kE a3)
 ·rw[←a2];exact a4.1
 ·rw[←a2];exact a4.2
theorem lC (bi:Nat) (cs:List Cls) (x y:Int) (w:World) (hI:fG w bi cs) (hw:WfC cs) (hx0: -1≤x) (hx:x<cs.length):
  Calls Tryz.prog 122 #[.pointer (some ⟨bi,0,none⟩),.int .i64 x,.int .i64 y] w fun en w'=>en= .returned (.bool (bk cs 5 x y))∧w'=w:=by
 obtain⟨R,a1⟩: ∃R,bk cs 5 x y=R:=⟨_,rfl⟩;rw[a1];have a4:Hid (bk cs 5 x y=R):=a1;clear a1
 go_in
 go_wp2_with fail
 go_loopg [1,7] 5 (fun mm xs ks wr=> ∃(xv:Int) (kn:Nat),xs= .int .i64 xv∧ks= .int .i64 kn∧kn≤5∧5≤kn+mm∧kn+mm≤5∧wr=w∧ -1≤xv∧xv<cs.length∧Hid (bk cs mm xv y=R))
 case atStart=>exact⟨x,0,rfl,rfl,by omega,by omega,by omega,rfl,hx0,hx,a4⟩
 case round=>
  obtain⟨xv,kn,rfl,rfl,b2,a5,a6,a9,b1,b0,HF⟩:=hrel;subst a9
  by_cases hxn:0≤xv
  ·cases gk with
   |zero=>
    have a0:R=false:=by rw[←HF.out];rfl
    subst a0;have a2: ¬(kn:Int)≤4:=by omega
    go_wp2_with fail;go_ret;exact⟨rfl,rfl⟩
   |succ f=>
    have a2:(kn:Int)≤4:=by omega
    by_cases hxy:xv=y
    ·have a0:R=true:=by rw[←HF.out,bk,if_neg (by omega),if_pos hxy]
     subst a0;have hb:(xv==y)=true:=by simpa using hxy
     clear hxy HF;go_wp2_with fail;go_ret;exact⟨rfl,rfl⟩
    ·have HN:Hid (bk cs f (bZ cs xv) y=R):=by show _=_;rw[←HF.out,bk,if_neg (by omega),if_neg hxy]
     have hb:(xv==y)=false:=by simpa using hxy
     obtain⟨g,n,cap,p,d0,hn,hc,a3,a7,a8⟩:=hI.par hw hxn b0;rw[a3]at HN;clear a3 hxy HF;go_wp2_with fail
     go_roundg f
     case measure=>omega
     case rel=>exact⟨p,kn+1,rfl,by simp,by omega,by omega,by omega,rfl,a7,a8,HN⟩
  ·have a0:R=false:=by
    rw[←HF.out]
    cases gk with
    |zero=>rfl
    |succ f=>rw[bk,if_pos (by omega)]
   subst a0
   by_cases a2:(kn:Int)≤4
   ·go_wp2_with fail;go_ret;exact⟨rfl,rfl⟩
   ·go_wp2_with fail;go_ret;exact⟨rfl,rfl⟩
theorem di (c:UInt8) (w:World):Calls Tryz.prog 82 #[.int .u8 c.toNat] w fun en w'=>en= .returned (.bool (isC c))∧w'=w:=by
 obtain⟨n,hn⟩: ∃n:Nat,c.toNat=n:=⟨_,rfl⟩
 have hb:isC c=(decide (65≤(n:Int))&&decide ((n:Int)≤68)):=by
  unfold isC;rw[hn];rw[Bool.eq_iff_iff];simp;omega
 rw[hn,hb];clear hb hn
 by_cases h:(65:Int)≤(n:Int)
 ·by_cases h2:(n:Int)≤68
  ·go_in
   go_wp2
   go_ret;exact⟨by simp[h,h2],rfl⟩
  ·go_in
   go_wp2
   go_ret;exact⟨by simp[h,h2],rfl⟩
 ·go_in
  go_wp2
  go_ret;exact⟨by simp;omega,rfl⟩
theorem lD (c:UInt8) (w:World):Calls Tryz.prog 119 #[.int .u8 c.toNat] w fun en w'=>en= .returned (.bool (isR c))∧w'=w:=by
 obtain⟨r,hr⟩: ∃r,isC c=r:=⟨_,rfl⟩
 by_cases h:c.toNat=122
 ·have hb:((c.toNat:Int)==122)=true:=by rw[beq_iff_eq];omega
  have a0:isR c=true:=by simp[isR,h]
  rw[a0];clear h a0 hr
  go_in
  go_wp2_with fail;go_ret;exact⟨rfl,rfl⟩
 ·have hb:=tf c.toNat 122 (by omega);have a0:isR c=r:=by simp[isR,h,hr]
  rw[a0];have HR:Hid (isC c=r):=hr;clear h a0 hr
  go_in
  go_wp2_with fail;refine(di c _).mono ?_;rw[HR.out];rintro en wx ⟨rfl,a1⟩;rw[a1];clear a1 wx;go_wp2_with fail;go_ret;exact⟨rfl,rfl⟩
theorem mG (bi:Nat) (cs:List Cls) (a b:UInt8) (w:World) (hI:fG w bi cs) (hw:WfC cs) (hn:cs.length≤4) (ha:okT cs.length a=true):
  Calls Tryz.prog 73 #[.pointer (some ⟨bi,0,none⟩),.int .u8 a.toNat,.int .u8 b.toNat] w fun en w'=>en= .returned (.bool (bR cs a b))∧w'=w:=by
 obtain⟨R,a1⟩: ∃R,bR cs a b=R:=⟨_,rfl⟩;rw[a1];unfold bR at a1;have a2:=dA.1 ha
 by_cases h1:a.toNat=b.toNat
 ·rw[if_pos (Or.inl h1)]at a1;subst a1;have hb:((a.toNat:Int)==(b.toNat:Int))=true:=by rw[beq_iff_eq];omega
  clear h1 a2
  go_in
  go_wp2_with fail;go_ret;exact⟨rfl,rfl⟩
 have a9:((a.toNat:Int)==(b.toNat:Int))=false:=by rw[beq_eq_false_iff_ne];omega
 by_cases h2:b.toNat=45
 ·rw[if_pos (Or.inr h2)]at a1;subst a1;have hb:((b.toNat:Int)==45)=true:=by rw[beq_iff_eq];omega
  clear h1 h2 a2
  go_in
  go_wp2_with fail;go_ret;exact⟨rfl,rfl⟩
 have b0:=tf b.toNat 45 (by omega);rw[if_neg (by omega)]at a1;clear h1 h2
 cases hcb:isC b with
 |false=>
  rw[if_pos hcb]at a1;subst a1
  go_in
  go_wp2_with (go_at_call 82;refine(di b _).mono ?_;rw[hcb];rintro en wx ⟨rfl,a0⟩;rw[a0];clear a0 wx);go_ret;exact⟨rfl,rfl⟩
 |true=>
  rw[if_neg (by rw[hcb];decide)]at a1
  by_cases h3:a.toNat=122
  ·rw[if_pos h3]at a1;subst a1;have a6:((a.toNat:Int)==122)=true:=by rw[beq_iff_eq];omega
   clear h3 a2
   go_in
   go_wp2_with (go_at_call 82;refine(di b _).mono ?_;rw[hcb];rintro en wx ⟨rfl,a0⟩;rw[a0];clear a0 wx);go_ret;exact⟨rfl,rfl⟩
  ·rw[if_neg h3]at a1;have a6:=tf a.toNat 122 (by omega);clear h3
   cases hca:isC a with
   |false=>
    rw[if_pos hca]at a1;subst a1;clear a2
    go_in
    go_wp2_with fail;refine(di b _).mono ?_;rw[hcb];rintro en wx ⟨rfl,a0⟩;rw[a0];clear a0 wx;go_wp2_with fail;refine(di a _).mono ?_;rw[hca];rintro en wx ⟨rfl,a0⟩;rw[a0];clear a0 wx;go_wp2_with fail;go_ret;exact⟨rfl,rfl⟩
   |true=>
    rw[if_neg (by rw[hca];decide)]at a1;have hA:=bI.1 hca;have hB:=bI.1 hcb;have a7:(65:Int)≤(a.toNat:Int):=by omega
    have a8:(a.toNat:Int)≤68:=by omega
    have b1:(65:Int)≤(b.toNat:Int):=by omega
    have b2:(b.toNat:Int)≤68:=by omega
    have a5:(a.toNat:Int)-65<cs.length:=by omega
    have HR:Hid (bk cs 5 ((a.toNat:Int)-65) ((b.toNat:Int)-65)=R):=a1;have a3:Hid (isC a=true):=hca;have a4:Hid (isC b=true):=hcb;clear a2 hA hB a1 hca hcb
    go_in
    go_wp2_with fail;refine(di b _).mono ?_;rw[a4.out];rintro en wx ⟨rfl,a0⟩;rw[a0];clear a0 wx;go_wp2_with fail;refine(di a _).mono ?_;rw[a3.out];rintro en wx ⟨rfl,a0⟩;rw[a0];clear a0 wx;go_wp2_with fail;refine(lC bi cs _ _ _ hI hw (by omega) a5).mono ?_;rw[HR.out];rintro en wx ⟨rfl,a0⟩;rw[a0];clear a0 wx;go_wp2_with fail;go_ret;exact⟨rfl,rfl⟩
theorem wo (bi:Nat) (cs:List Cls) (a b:UInt8) (w:World) (hI:fG w bi cs) (hw:WfC cs) (hn:cs.length≤4) (ha:okT cs.length a=true) (hb:okT cs.length b=true):
  Calls Tryz.prog 120 #[.pointer (some ⟨bi,0,none⟩),.int .u8 a.toNat,.int .u8 b.toNat] w fun en w'=>en= .returned (.int .u8 (gX cs a b).toNat)∧w'=w:=by
 obtain⟨R,a1⟩: ∃R,gX cs a b=R:=⟨_,rfl⟩;rw[a1];unfold gX at a1
 cases h1:bR cs a b with
 |true=>
  rw[if_pos h1]at a1;subst a1;have H1:Hid (bR cs a b=true):=h1;clear h1
  go_in
  go_wp2_with fail;refine(mG bi cs a b _ hI hw hn ha).mono ?_;rw[H1.out];rintro en wx ⟨rfl,a0⟩;rw[a0];clear a0 wx;go_wp2_with fail;go_ret;exact⟨rfl,rfl⟩
 |false=>
 rw[if_neg (by rw[h1];decide)]at a1;have H1:Hid (bR cs a b=false):=h1;clear h1
 go_in
 go_wp2_with fail;refine(mG bi cs a b _ hI hw hn ha).mono ?_;rw[H1.out];rintro en wx ⟨rfl,a0⟩;rw[a0];clear a0 wx;go_wp2_with fail;refine(mG bi cs b a _ hI hw hn hb).mono ?_
 cases h2:bR cs b a with
 |true=>
  rw[if_pos h2]at a1;subst a1;clear h2;rintro en wx ⟨rfl,a0⟩;rw[a0];clear a0 wx;go_wp2_with fail;go_ret;exact⟨rfl,rfl⟩
 |false=>
 rw[if_neg (by rw[h2];decide)]at a1;clear h2;rintro en wx ⟨rfl,a0⟩;rw[a0];clear a0 wx;go_wp2_with fail;refine(di a _).mono ?_
 cases hca:isC a with
 |false=>
  rw[if_pos (Or.inl hca)]at a1;subst a1;clear hca;rintro en wx ⟨rfl,a0⟩;rw[a0];clear a0 wx;go_wp2_with fail;go_ret;exact⟨rfl,rfl⟩
 |true=>
 rintro en wx ⟨rfl,a0⟩;rw[a0];clear a0 wx;go_wp2_with fail;refine(di b _).mono ?_
 cases hcb:isC b with
 |false=>
  rw[if_pos (Or.inr hcb)]at a1;subst a1;clear hcb hca;rintro en wx ⟨rfl,a0⟩;rw[a0];clear a0 wx;go_wp2_with fail;go_ret;exact⟨rfl,rfl⟩
 |true=>
 rw[if_neg (by rw[hca,hcb];decide)]at a1;rintro en wx ⟨rfl,a0⟩;rw[a0];clear a0 wx;have b0:=dA.1 ha;have b2:=dA.1 hb;have hA:=bI.1 hca;have hB:=bI.1 hcb;have e5:(65:Int)≤(a.toNat:Int):=by omega
 have e6:(a.toNat:Int)≤68:=by omega
 have e7:(65:Int)≤(b.toNat:Int):=by omega
 have e8:(b.toNat:Int)≤68:=by omega
 have a9:(a.toNat:Int)-65<cs.length:=by omega
 have b1:(b.toNat:Int)-65<cs.length:=by omega
 obtain⟨g,n,cap,p,d0,a5,hc,a3,b5,b9⟩:=hI.par hw (x:=(a.toNat:Int)-65) (by omega) a9;rw[a3]at a1;have a8:Hid (fR cs ((b.toNat:Int)-65) 5 p=R):=a1;rw[show((a.toNat:Int)-65).toNat=a.toNat-65 from by omega]at hc;clear b0 b2 hA hB hca hcb a1 a3;go_wp2_with fail
 go_loopg [9,10] 5 (fun mm xs ks wr=> ∃(xv:Int) (kn:Nat),xs= .int .i64 xv∧ks= .int .i64 kn∧kn≤5∧5≤kn+mm∧kn+mm≤5∧wr=w∧ -1≤xv∧xv<cs.length∧Hid (fR cs ((b.toNat:Int)-65) mm xv=R))
 case atStart=>exact⟨p,0,rfl,rfl,by omega,by omega,by omega,rfl,b5,b9,a8⟩
 case round=>
  obtain⟨xv,kn,rfl,rfl,f0,b3,b4,e2,e4,e3,HF⟩:=hrel;subst e2;clear d0 hc a5
  by_cases hxn:0≤xv
  ·cases gk with
   |zero=>
    have a2:R=45:=by rw[←HF.out];rfl
    subst a2;have a4: ¬(kn:Int)≤4:=by omega
    go_wp2_with fail;go_ret;exact⟨rfl,rfl⟩
   |succ f=>
    have a4:(kn:Int)≤4:=by omega
    go_wp2_with fail;refine(lC bi cs _ _ _ hI hw (by omega) b1).mono ?_
    cases hu:bk cs 5 ((b.toNat:Int)-65) xv with
    |true=>
     have a2:R=UInt8.ofNat (65+xv.toNat):=by rw[←HF.out,fR,if_neg (by omega),if_pos hu]
     have a6:(R.toNat:Int)=65+xv:=by rw[a2,UInt8.toNat_ofNat'];omega
     have a7:Hid ((R.toNat:Int)=65+xv):=a6;clear hu a2 a6;rintro en wx ⟨rfl,a0⟩;rw[a0];clear a0 wx;go_wp2_with fail;go_ret;exact⟨jM (by rw[a7.out]),rfl⟩
    |false=>
     obtain⟨g,n,cap,p',d0,a5,hc,a3,e0,e1⟩:=hI.par hw hxn e3;have HN:Hid (fR cs ((b.toNat:Int)-65) f p'=R):=by show _=_;rw[←HF.out,fR,if_neg (by omega),if_neg (by rw[hu];decide),a3]
     clear hu a3 HF;rintro en wx ⟨rfl,a0⟩;rw[a0];clear a0 wx;go_wp2_with fail
     go_roundg f
     case measure=>omega
     case rel=>exact⟨p',kn+1,rfl,by simp,by omega,by omega,by omega,rfl,e0,e1,HN⟩
  ·have a2:R=45:=by
    rw[←HF.out]
    cases gk with
    |zero=>rfl
    |succ f=>rw[fR,if_pos (by omega)]
   subst a2
   by_cases a4:(kn:Int)≤4
   ·go_wp2_with fail;go_ret;exact⟨rfl,rfl⟩
   ·go_wp2_with fail;go_ret;exact⟨rfl,rfl⟩
end
section
open Go Go.RowKit Sp
attribute [local go_sem ↓] Go.wp_at_zero Go.wp_at_succ
theorem jv (l:List UInt8) (k:Nat) (h:k<l.length) (h':k<(⟨l.toArray⟩:ByteArray).size):(⟨l.toArray⟩:ByteArray)[k]=l[k]:=rfl
theorem dj (l:List UInt8) (k:Nat) (h:k<l.length):l.getD k 0=l[k]:=by simp[List.getD,h]
theorem wu (bi:Nat) (cs:List Cls) (st wa:List UInt8) (w:World) (hI:fG w bi cs) (hw:WfC cs) (hn:cs.length≤4) (hst: ∀c∈st,okT cs.length c=true) (hl1:st.length≤100000) (hl2:wa.length≤100):
  Calls Tryz.prog 83 #[.pointer (some ⟨bi,0,none⟩),.string ⟨st.toArray⟩,.string ⟨wa.toArray⟩] w fun en w'=>en= .returned (.bool (cZ cs st wa))∧But (fun _=>False) w w':=by
 obtain⟨R,a5⟩: ∃R,cZ cs st wa=R:=⟨_,rfl⟩;rw[a5];have a4:Hid (cZ cs st wa=R):=a5;clear a5
 by_cases hlen:(st.length:Int)-(wa.length:Int)<0
 ·have a0:R=false:=by rw[←a4.out];exact qu (by omega)
  subst a0
  go_in
  go_wp2_with fail;go_ret;exact⟨rfl,But.refl _ _⟩
 go_in
 go_wp2_with fail
 go_loopg [8] wa.length (fun mm ks wr=> ∃(k:Nat),ks= .int .i64 k∧k≤wa.length∧k+mm≤wa.length∧wa.length≤k+mm∧But (fun _=>False) w wr∧Hid (∀j,j<k→bR cs (st.getD (st.length-wa.length+j) 0) (wa.getD j 0)=true))
 case atStart=>exact⟨0,rfl,by omega,by omega,by omega,But.refl _ _,fun j h=>absurd h (by omega)⟩
 case round=>
  obtain⟨k,rfl,b3,b4,b5,a2,HA⟩:=hrel
  by_cases hlt:k<wa.length
  ·have b9:(k:Int)<(wa.length:Int):=by omega
   have b1:(0:Int)≤(st.length:Int)-(wa.length:Int)+(k:Int):=by omega
   have b2:(st.length:Int)-(wa.length:Int)+(k:Int)<(st.length:Int):=by omega
   have a3:st.length-wa.length+k<st.length:=by omega
   have a7:=bH ((st.length:Int)-(wa.length:Int)+(k:Int)) (by omega) (by omega);go_wp2_with fail;refine az (But (fun _=>False) wr) 10 (by kernel_rfl) ?_;have a1:But (fun _=>False) wr wr.drew:=But.drew _ _
   iterate 9 (refine aB (v:=?_) rfl (by kernel_rfl) (fun _ _ _ h=>h) rfl a1 ?_ ?_;rotate_left;(focus (intro wS h;clear h;go_simp;try rfl));dsimp only[Act.put];try simp only[aR])
   clear a7;refine ag rfl (by kernel_rfl) ?_;intro KS hKS;go_simp
   have ha: ∀h,(⟨st.toArray⟩:ByteArray)[((st.length:Int)-(wa.length:Int)+(k:Int)).toNat]'h=st.getD (st.length-wa.length+k) 0:=fun h=>by
    have a6:((st.length:Int)-(wa.length:Int)+(k:Int)).toNat=st.length-wa.length+k:=by omega
    rw[dj st _ a3];simp only[a6];exact jv st _ a3 _
   have hb: ∀h,(⟨wa.toArray⟩:ByteArray)[k]'h=wa.getD k 0:=fun h=>by
    rw[dj wa _ hlt];exact jv wa _ hlt _
   simp only[ha,hb];have b0:okT cs.length (st.getD (st.length-wa.length+k) 0)=true:=by rw[dj st _ a3];exact hst _ (List.getElem_mem _)
   have a9:Hid (∀q,bR cs (st.getD (st.length-wa.length+k) 0) (wa.getD k 0)=q→(q=false→R=false)∧(q=true→ ∀j,j<k+1→bR cs (st.getD (st.length-wa.length+j) 0) (wa.getD j 0)=true)):=fun q hq=>by
    refine⟨fun h=>by subst h;rw[←a4.out];exact vK hlt hq,fun h j hj=> ?_⟩;rcases Nat.lt_or_ge j k with h'|h'
    ·exact HA.out j h'
    ·have:j=k:=by omega
     subst this;rw[hq,h]
   clear ha hb a3;generalize st.getD (st.length-wa.length+k) 0=A at*;generalize wa.getD k 0=B at*;refine(mG bi cs A B _ ((hI.but a2).but a1) hw hn b0).mono ?_;rintro en wx ⟨rfl,a8⟩;rw[a8];clear a8 wx;refine hKS.out _ _ (fun _=>a1) ?_;clear hKS KS;refine ag rfl (by kernel_rfl) ?_;intro KS hKS;go_simp;refine hKS.out _ _ nofun ?_;clear hKS KS;refine aD rfl (by kernel_rfl) ?_;have HX:=a9.out _ rfl
   cases hq:bR cs A B with
   |false=>
    have a0:R=false:=HX.1 hq;subst a0;clear HX hq;go_wp2_with fail;go_ret;exact⟨rfl,a2.trans a1⟩
   |true=>
    have HY:Hid (∀j,j<k+1→bR cs (st.getD (st.length-wa.length+j) 0) (wa.getD j 0)=true):=HX.2 hq;clear HX hq;go_wp2_with fail
    go_roundg (wa.length-(k+1))
    case measure=>omega
    case rel=>exact⟨k+1,by simp,by omega,by omega,by omega,a2.trans a1,HY⟩
  ·have a0:R=true:=by rw[←a4.out];exact tX (by omega) (fun j hj=>HA.out j (by omega))
   subst a0;go_wp2_with fail;go_ret;exact⟨rfl,a2⟩
theorem qW (bi:Nat) (cs:List Cls) (a b:List UInt8) (w:World) (hI:fG w bi cs) (hw:WfC cs) (hn:cs.length≤4) (ha: ∀c∈a,okT cs.length c=true) (hb: ∀c∈b,okT cs.length c=true) (hl:a.length=b.length) (hl1:a.length≤100000):
  Calls Tryz.prog 244 #[.pointer (some ⟨bi,0,none⟩),.string ⟨a.toArray⟩,.string ⟨b.toArray⟩] w fun en w'=>en= .returned (.string ⟨(bW cs a b).toArray⟩)∧But (fun _=>False) w w':=by
 obtain⟨R,a3⟩: ∃R,bW cs a b=R:=⟨_,rfl⟩;rw[a3];have a7:Hid (bW cs a b=R):=a3;have HL:Hid (a.length=b.length):=hl;have b5:a.length≤b.length:=by omega
 clear a3 hl
 go_in
 go_wp2_with fail
 go_loopg [7,8] a.length (fun mm ts ks wr=> ∃(k:Nat) (t:List UInt8),ts= .string ⟨t.toArray⟩∧t.length≤k∧ks= .int .i64 k∧k≤a.length∧k+mm≤a.length∧a.length≤k+mm∧But (fun _=>False) w wr∧Hid (bW cs (a.take k) (b.take k)=t))
 case atStart=>exact⟨0,[],rfl,by simp,rfl,by omega,by omega,by omega,But.refl _ _,rfl⟩
 case round=>
  obtain⟨k,t,rfl,e0,rfl,b1,b2,b3,a2,HA⟩:=hrel
  by_cases hlt:k<a.length
  ·have b4:(k:Int)<(a.length:Int):=by omega
   have a0:k<b.length:=by omega
   have a9:(k:Int)<(b.length:Int):=by omega
   go_wp2_with fail;refine az (But (fun _=>False) wr) 8 (by kernel_rfl) ?_;have a1:But (fun _=>False) wr wr.drew:=But.drew _ _
   iterate 7 (refine aB (v:=?_) rfl (by kernel_rfl) (fun _ _ _ h=>h) rfl a1 ?_ ?_;rotate_left;(focus (intro wS h;clear h;go_simp;try rfl));dsimp only[Act.put];try simp only[aR])
   refine ag rfl (by kernel_rfl) ?_;intro KS hKS;go_simp
   have h1: ∀h,(⟨a.toArray⟩:ByteArray)[k]'h=a.getD k 0:=fun h=>by
    rw[dj a _ hlt];exact jv a _ hlt _
   have h2: ∀h,(⟨b.toArray⟩:ByteArray)[k]'h=b.getD k 0:=fun h=>by
    rw[dj b _ a0];exact jv b _ a0 _
   simp only[h1,h2];have hA:okT cs.length (a.getD k 0)=true:=by rw[dj a _ hlt];exact ha _ (List.getElem_mem _)
   have hB:okT cs.length (b.getD k 0)=true:=by rw[dj b _ a0];exact hb _ (List.getElem_mem _)
   have a6:Hid (bW cs (a.take (k+1)) (b.take (k+1))=t++ [gX cs (a.getD k 0) (b.getD k 0)]):=by
    show _=_
    rw[sq hlt a0,HA.out]
   clear h1 h2 a0 a9;generalize a.getD k 0=A at*;generalize b.getD k 0=B at*;refine(wo bi cs A B _ ((hI.but a2).but a1) hw hn hA hB).mono ?_;rintro en wx ⟨rfl,a5⟩;rw[a5];clear a5 wx;refine hKS.out _ _ (fun _=>a1) ?_;clear hKS KS;refine ag rfl (by kernel_rfl) ?_;intro KS hKS;go_simp;refine hKS.out _ _ nofun ?_;clear hKS KS;refine aD rfl (by kernel_rfl) ?_;generalize gX cs A B=J at*;have b0:=tD J;have b9:(⟨t.toArray⟩:ByteArray).size+(⟨#[J]⟩:ByteArray).size≤200000:=by show t.toArray.size+1≤200000;simp;omega
   have a8:But (fun _=>False) w wr.drew:=a2.trans a1;generalize wr.drew=wd at*;go_wp2_with fail
   go_roundg (a.length-(k+1))
   case measure=>omega
   case rel=>exact⟨k+1,t++ [J],congrArg Value.string (ff _ _),by simp;omega,by simp,by omega,by omega,by omega,a8.trans (But.alloc _ _ _),a6⟩
  ·have a4:t=R:=by
    rw[←a7.out,←HA.out,List.take_of_length_le (by omega),List.take_of_length_le (by have:=HL.out;omega)]
   subst a4;go_wp2_with fail;go_ret;exact⟨rfl,a2⟩
theorem oQ (x:Ins) (st:List UInt8) (w:World) (hl1:st.length≤100000):
  Calls Tryz.prog 135 #[.agg #[.int .u8 x.op.toNat,.int .i64 x.a,.int .i64 x.b,.int .i64 x.pos],.string ⟨st.toArray⟩] w fun en w'=>en= .returned (.int .i64 (qU (cg x.op.toNat st)))∧But (fun _=>False) w w':=by
 obtain⟨R,a0⟩: ∃R,cg x.op.toNat st=R:=⟨_,rfl⟩;rw[a0];unfold cg at a0
 by_cases h101:x.op.toNat=101
 ·rw[if_pos h101]at a0;have t1:((x.op.toNat:Int)==101)=true:=by rw[beq_iff_eq];omega
  clear h101
  by_cases h2:(st.length:Int)<2
  ·rw[if_pos (Or.inl (by omega))]at a0;subst a0
   go_in
   go_wp2_with fail;go_ret;exact⟨rfl,But.alloc _ _ _⟩
  ·have a2:st.length-1<st.length:=by omega
   have a3:st.length-2<st.length:=by omega
   have g1: ∀h,(⟨st.toArray⟩:ByteArray)[st.length-1]'h=st.getD (st.length-1) 0:=fun h=>by rw[dj st _ a2];exact jv st _ a2 _
   have g2: ∀h,(⟨st.toArray⟩:ByteArray)[st.length-2]'h=st.getD (st.length-2) 0:=fun h=>by rw[dj st _ a3];exact jv st _ a3 _
   rw[dj st _ a2,dj st _ a3]at a0;obtain⟨P,hP⟩: ∃P,st[st.length-1]'a2=P:=⟨_,rfl⟩;obtain⟨Q,hQ⟩: ∃Q,st[st.length-2]'a3=Q:=⟨_,rfl⟩;rw[hP,hQ]at a0;have HP:Hid (st[st.length-1]'a2=P):=hP;have HQ:Hid (st[st.length-2]'a3=Q):=hQ;have a5: ¬st.length<2:=by omega
   clear hP hQ;have k1: ∀h,(⟨st.toArray⟩:ByteArray)[st.length-1]'h=P:=fun h=>(jv st _ a2 _).trans HP.out
   have k2: ∀h,(⟨st.toArray⟩:ByteArray)[st.length-2]'h=Q:=fun h=>(jv st _ a3 _).trans HQ.out
   clear g1 g2
   go_in
   go_wp2_with fail;refine(lD P _).mono ?_
   cases hp:isR P with
   |false=>
    rw[if_pos (Or.inr (Or.inl hp))]at a0;subst a0;rintro en wx ⟨rfl,a1⟩;rw[a1];clear a1 wx hp;go_wp2_with fail;go_ret;exact⟨rfl,But.alloc _ _ _⟩
   |true=>
    rintro en wx ⟨rfl,a1⟩;rw[a1];clear a1 wx;go_wp2_with fail;refine(lD Q _).mono ?_
    cases hq:isR Q with
    |false=>
     rw[if_pos (Or.inr (Or.inr hq))]at a0;subst a0;rintro en wx ⟨rfl,a1⟩;rw[a1];clear a1 wx hp hq;go_wp2_with fail;go_ret;exact⟨rfl,But.alloc _ _ _⟩
    |true=>
     rw[if_neg (by rw[hp,hq];simp;omega)]at a0;subst a0;rintro en wx ⟨rfl,a1⟩;rw[a1];clear a1 wx hp hq;go_wp2_with fail;go_ret;exact⟨rfl,But.alloc _ _ _⟩
 ·rw[if_neg h101]at a0;have t1:=tf x.op.toNat 101 (by omega);clear h101
  by_cases h1:(st.length:Int)<1
  ·rw[if_pos (Or.inl (by omega))]at a0;subst a0
   go_in
   go_wp2_with fail;go_ret;exact⟨rfl,But.alloc _ _ _⟩
  ·have a2:st.length-1<st.length:=by omega
   by_cases h120:x.op.toNat=120
   ·have t2:((x.op.toNat:Int)==120)=true:=by rw[beq_iff_eq];omega
    rw[dj st _ a2]at a0;obtain⟨P,hP⟩: ∃P,st[st.length-1]'a2=P:=⟨_,rfl⟩;rw[hP]at a0;have HP:Hid (st[st.length-1]'a2=P):=hP;clear hP;have k1: ∀h,(⟨st.toArray⟩:ByteArray)[st.length-1]'h=P:=fun h=>(jv st _ a2 _).trans HP.out
    have a4:Hid (x.op.toNat=120):=h120;clear h120
    go_in
    go_wp2_with fail;refine(lD P _).mono ?_
    cases hp:isR P with
    |false=>
     rw[if_pos (Or.inr ⟨a4.out,hp⟩)]at a0;subst a0;rintro en wx ⟨rfl,a1⟩;rw[a1];clear a1 wx hp;go_wp2_with fail;go_ret;exact⟨rfl,But.alloc _ _ _⟩
    |true=>
     rw[if_neg (fun h=>by
      rcases h with h| ⟨_,h⟩
      ·omega
      ·rw[hp]at h;cases h)]at a0
     subst a0;rintro en wx ⟨rfl,a1⟩;rw[a1];clear a1 wx hp;go_wp2_with fail;go_ret;exact⟨rfl,But.alloc _ _ _⟩
   ·have t2:=tf x.op.toNat 120 (by omega);rw[if_neg (by omega)]at a0;subst a0;clear h120
    go_in
    go_wp2_with fail;go_ret;exact⟨rfl,But.alloc _ _ _⟩
theorem sK (a:Int) (c:UInt8) (ha:a=c.toNat) (w:World):(convert 112 9 (.slice (some ⟨w.heap.size,0,none⟩) 1 1)).run Tryz.prog (w.alloc (.cells #[.int .u8 a] 5))= .ok (.string ⟨#[c]⟩) (w.alloc (.cells #[.int .u8 a] 5)):=by
 subst ha;exact tD c w
theorem wv (a:Int) (c:UInt8) (ha:a=c.toNat) (w:World):(convert 112 9 (.slice (some ⟨w.heap.size,0,none⟩) 1 1)).run Tryz.prog (w.alloc (.cells #[.int .u8 a] 5)).drew= .ok (.string ⟨#[c]⟩) (w.alloc (.cells #[.int .u8 a] 5)).drew:=sK a c ha w.drew
theorem ww (a d:Int) (c e:UInt8) (ha:a=c.toNat) (hd:d=e.toNat) (w:World):(convert 112 9 (.slice (some ⟨w.heap.size,0,none⟩) 2 2)).run Tryz.prog (w.alloc (.cells #[.int .u8 a,.int .u8 d] 5)).drew= .ok (.string ⟨#[c,e]⟩) (w.alloc (.cells #[.int .u8 a,.int .u8 d] 5)).drew:=wg a d c e ha hd w.drew
theorem qX {a:Nat} (h:a<4):(65+(a:Int))=((dg a).toNat:Int):=by
 unfold dg;rw[UInt8.toNat_ofNat'];omega
def wy (w:World) (bi:Nat) (gs:List Sig):Prop:=
 ∃v0 v1 v2,ImB w bi v0 v1 v2∧w.ownsRow 0 129 2 v1 gs.length (cD gs)
theorem bT.sig {w:World} {bi:Nat} {im:Img} (h:bT w bi im):wy w bi im.sigs:=by
 obtain⟨v0,v1,v2,l,hI,_,h1,_⟩:=h;exact⟨v0,v1,v2,hI,h1⟩
theorem wy.at {w:World} {bi:Nat} {gs:List Sig} (h:wy w bi gs) {k:Nat} (hk:k<gs.length):
  ∃(g n cap:Nat),w.cell? ⟨bi,1,none⟩=some (.slice (some ⟨g,0,none⟩) n cap)∧(k:Int)<(n:Int)∧w.cell? ⟨g,k*2,none⟩=some (.int .u8 (ip gs k).toNat)∧w.cell? ⟨g,k*2+1,none⟩=some (.int .u8 (fc gs k).toNat)∧bi<w.heap.size∧g<w.heap.size:=by
 obtain⟨v0,v1,v2,hI,hO⟩:=h;obtain⟨a0,cap0,rfl⟩:=au hO;have a2:=List.getElem?_eq_getElem hk;obtain⟨g,rfl,a3,a4,a1⟩:=aG hO (by omega);refine⟨g,gs.length,cap0,hI.c1,by omega,?_,?_,hI.lt,a3⟩
 ·rw[show ip gs k=gs[k].arg from by simp[ip,a2]];exact a1 _ _ (kF a2)
 ·rw[show fc gs k=gs[k].ret from by simp[fc,a2]];exact a1 _ _ (po a2)
theorem fG.flds {w:World} {bi:Nat} {cs:List Cls} (h:fG w bi cs) {k j:Nat} (hk:k<cs.length) (hj:j<bS cs k):
  ∃(g n cap:Nat) (fl:List UInt8),w.cell? ⟨bi,0,none⟩=some (.slice (some ⟨g,0,none⟩) n cap)∧(k:Int)<(n:Int)∧w.cell? ⟨g,k*2+1,none⟩=some (.string ⟨fl.toArray⟩)∧j<fl.length∧fl.getD j 0=da cs k j∧bi<w.heap.size∧g<w.heap.size:=by
 obtain⟨v0,v1,v2,hI,hO⟩:=h;obtain⟨a0,cap0,rfl⟩:=au hO;have a2:=List.getElem?_eq_getElem hk;obtain⟨g,rfl,a3,a4,a1⟩:=aG hO (by omega);refine⟨g,cs.length,cap0,cs[k].fields,hI.c0,by omega,a1 _ _ (eQ a2),?_,?_,hI.lt,a3⟩
 ·simpa[bS,a2]using hj
 ·simp[da,a2]
theorem wA (bi:Nat) (im:Img) (bd:Bod) (ak:Option Addr) (n capk:Nat) (x:Ins) (w:World) (hI:bT w bi im) (hW:WfI im) (hbd:WfB im.classes im.sigs bd) (hx:WfX im.classes im.sigs.length bd.locals.length x) (hdummy:True):
  Calls Tryz.prog 137 #[.pointer (some ⟨bi,0,none⟩),.agg #[.int .i64 bd.cls,.int .i64 bd.meth,.string ⟨bd.locals.toArray⟩,.slice ak n capk,.slice none 0 0],.agg #[.int .u8 x.op.toNat,.int .i64 x.a,.int .i64 x.b,.int .i64 x.pos]] w fun en w'=>en= .returned (.string ⟨(aP im.classes im.sigs bd x).toArray⟩)∧But (fun _=>False) w w':=by
 have a2:=hx.op;simp[bM]at a2;have e5:=hW.nc;obtain⟨W,a5⟩: ∃W,(w.alloc (.cells #[.int .i64 bd.cls,.int .i64 bd.meth,.string ⟨bd.locals.toArray⟩,.slice ak n capk,.slice none 0 0] 52)).alloc (.cells #[.int .u8 x.op.toNat,.int .i64 x.a,.int .i64 x.b,.int .i64 x.pos] 144)=W:=⟨_,rfl⟩;have a4:But (fun _=>False) w W:=by rw[←a5];exact(But.alloc _ _ _).trans (But.alloc _ _ _)
 have b0:W.heap[w.heap.size+1]?=some (.cells #[.int .u8 x.op.toNat,.int .i64 x.a,.int .i64 x.b,.int .i64 x.pos] 144):=by rw[←a5];exact aw (by simp) _
 have b2:W.heap[w.heap.size]?=some (.cells #[.int .i64 bd.cls,.int .i64 bd.meth,.string ⟨bd.locals.toArray⟩,.slice ak n capk,.slice none 0 0] 52):=by rw[←a5];exact((But.alloc (fun _=>False) _ _).block w.heap.size (by simp) (fun h=>h)).trans (heap_alloc_new w _)
 have a6:W.heap.size=w.heap.size+2:=by rw[←a5];simp
 have i1:=cell_of_row W _ 1 _ _ (0,0) b0;have i2:=cell_of_row W _ 2 _ _ (0,0) b0;have b1:=cell_of_row W _ 1 _ _ (0,0) b2;simp at i1 i2 b1;have lI:=ae b0;have lB:=ae b2;have a7:=hI.but a4;have a1:=hid a5;have a8:But (fun _=>False) W W.drew:=But.drew _ _;clear a5 b0 b2;have a3: ∀a:Nat,a<4→(65+(a:Int))=((dg a).toNat:Int):=fun a h=>qX h
 by_cases h112:x.op.toNat=112
 ·have b5:=hx.cls (by omega);obtain⟨g,m,cap,fl,d0,hm,hc,e1,e0,lbi,lg⟩:=a7.cls.flds b5 (hx.fld (by omega));rw[show aP im.classes im.sigs bd x=[dg x.a,da im.classes x.a x.b]from by simp[aP,h112,aL],h112,←e0];rw[h112,show((112:Nat):Int)=112 from rfl]at a1;have e4:(x.b:Int)<(fl.length:Int):=by omega
  have e3:=bH (65+(x.a:Int)) (by omega) (by omega);have b4:=IntWalk.u8_in (65+(x.a:Int)) (by omega);have a9:=ww (65+(x.a:Int)) ((fl.getD x.b 0).toNat:Int) (dg x.a) (fl.getD x.b 0) (a3 _ (by omega)) rfl;have e2: ∀h,(⟨fl.toArray⟩:ByteArray)[x.b]'h=fl.getD x.b 0:=fun h=>by rw[dj fl _ e1];exact jv fl _ e1 _
  generalize fl.getD x.b 0=E at*;generalize dg x.a=C at*;clear a3 a2 h112 e0 a6
  go_in
  go_wp2_with fail;rw[a1.out];refine az (But (fun _=>False) W) 18 (by kernel_rfl) ?_
  iterate 16 (refine aB (v:=?_) rfl (by kernel_rfl) (fun _ _ _ h=>h) rfl a8 ?_ ?_;rotate_left;(focus (intro wS h;have q0:=(h.kc i1 lI);have q1:=(h.kc i2 lI);have q2:=(h.kc d0 lbi);have q3:=(h.kc hc lg);clear h;go_simp;try rfl));dsimp only[Act.put];try simp only[aR])
  refine ag rfl (by kernel_rfl) ?_;intro KS hKS;simp only[e2];go_simp;refine hKS.out _ _ (fun _=>(But.alloc _ _ _).trans (But.drew _ _)) ?_;clear hKS KS;refine ag rfl (by kernel_rfl) ?_;intro KS hKS;go_simp;refine hKS.out _ _ (fun _=>(But.alloc _ _ _).trans (But.drew _ _)) ?_;clear hKS KS;refine ag rfl (by kernel_rfl) ?_;intro KS hKS;go_simp;refine hKS.out _ _ nofun ?_;clear hKS KS;refine aD rfl (by kernel_rfl) ?_;go_wp2_with fail;go_ret;exact⟨rfl,a4.trans ((But.alloc _ _ _).trans (But.drew _ _))⟩
 by_cases h99:x.op.toNat=99
 ·have b5:=hx.cls (by omega);obtain⟨g,m,cap,d1,hm,hc,b9,lbi,lg⟩:=a7.sig.at (hx.sig h99);rw[show aP im.classes im.sigs bd x=[dg x.a,ip im.sigs x.b]from by simp[aP,h99,aL],h99];rw[h99,show((99:Nat):Int)=99 from rfl]at a1;have e3:=bH (65+(x.a:Int)) (by omega) (by omega);have b4:=IntWalk.u8_in (65+(x.a:Int)) (by omega);have a9:=ww (65+(x.a:Int)) ((ip im.sigs x.b).toNat:Int) (dg x.a) (ip im.sigs x.b) (a3 _ (by omega)) rfl;generalize ip im.sigs x.b=E at*;generalize dg x.a=C at*;clear a3 a2 h112 h99 a6
  go_in
  go_wp2_with fail;rw[a1.out];refine az (But (fun _=>False) W) 15 (by kernel_rfl) ?_
  iterate 13 (refine aB (v:=?_) rfl (by kernel_rfl) (fun _ _ _ h=>h) rfl a8 ?_ ?_;rotate_left;(focus (intro wS h;have q0:=(h.kc i1 lI);have q1:=(h.kc i2 lI);have q2:=(h.kc d1 lbi);have q3:=(h.kc hc lg);clear h;go_simp;try rfl));dsimp only[Act.put];try simp only[aR])
  refine ag rfl (by kernel_rfl) ?_;intro KS hKS;go_simp;refine hKS.out _ _ (fun _=>(But.alloc _ _ _).trans (But.drew _ _)) ?_;clear hKS KS;refine ag rfl (by kernel_rfl) ?_;intro KS hKS;go_simp;refine hKS.out _ _ (fun _=>(But.alloc _ _ _).trans (But.drew _ _)) ?_;clear hKS KS;refine ag rfl (by kernel_rfl) ?_;intro KS hKS;go_simp;refine hKS.out _ _ nofun ?_;clear hKS KS;refine aD rfl (by kernel_rfl) ?_;go_wp2_with fail;go_ret;exact⟨rfl,a4.trans ((But.alloc _ _ _).trans (But.drew _ _))⟩
 by_cases a0:x.op.toNat=116∧ ¬bd.cls<0
 ·obtain⟨a0,hcl⟩:=a0;obtain⟨mn,b3⟩: ∃mn:Nat,bd.meth=mn:=⟨bd.meth.toNat,by rcases hbd.cls with h|h<;>omega⟩;obtain⟨g,m,cap,d1,hm,hc,b9,lbi,lg⟩:=a7.sig.at (k:=mn) (by rcases hbd.cls with h|h<;>omega);rw[show aP im.classes im.sigs bd x=[fc im.sigs mn]from by simp[aP,a0,aL,hcl,b3],a0];rw[a0,show((116:Nat):Int)=116 from rfl]at a1;rw[b3]at b1;have a9:=wv ((fc im.sigs mn).toNat:Int) (fc im.sigs mn) rfl;generalize fc im.sigs mn=E at*;clear a3 a2 h112 h99 a0 b3 a6
  go_in
  go_wp2_with fail;rw[a1.out];refine az (But (fun _=>False) W) 11 (by kernel_rfl) ?_
  iterate 9 (refine aB (v:=?_) rfl (by kernel_rfl) (fun _ _ _ h=>h) rfl a8 ?_ ?_;rotate_left;(focus (intro wS h;have q0:=(h.kc b1 lB);have q1:=(h.kc d1 lbi);have q2:=(h.kc b9 lg);clear h;go_simp;try rfl));dsimp only[Act.put];try simp only[aR])
  refine ag rfl (by kernel_rfl) ?_;intro KS hKS;go_simp;refine hKS.out _ _ (fun _=>(But.alloc _ _ _).trans (But.drew _ _)) ?_;clear hKS KS;refine ag rfl (by kernel_rfl) ?_;intro KS hKS;go_simp;refine hKS.out _ _ (fun _=>(But.alloc _ _ _).trans (But.drew _ _)) ?_;clear hKS KS;refine ag rfl (by kernel_rfl) ?_;intro KS hKS;go_simp;refine hKS.out _ _ nofun ?_;clear hKS KS;refine aD rfl (by kernel_rfl) ?_;go_wp2_with fail;go_ret;exact⟨rfl,a4.trans ((But.alloc _ _ _).trans (But.drew _ _))⟩
 by_cases h103:x.op.toNat=103
 ·have b5:=hx.cls (by omega);rw[show aP im.classes im.sigs bd x=[dg x.a]from by simp[aP,h103,aL],h103];rw[h103,show((103:Nat):Int)=103 from rfl]at a1;have a9:=sK (65+(x.a:Int)) (dg x.a) (a3 _ (by omega)) W;rw[a6,←a1.out]at a9;have e6:(x.a:Int)<4:=by omega
  generalize dg x.a=C at*;clear a3 a2 h112 h99 a0 h103 a6 a1 a7 hI hx a4 i1 i2 b1 lI lB a8
  go_in
  go_wp2_with fail;go_ret;exact⟨rfl,((But.alloc _ _ _).trans (But.alloc _ _ _)).trans (But.alloc _ _ _)⟩
 simp only[h112,h99,h103,or_false,false_or]at a2;clear a6 a1 a7 hI a4 i1 i2 b1 lI lB a8 a3
 by_cases hcl:bd.cls<0
 all_goals
  simp only[hcl,not_false_eq_true,not_true_eq_false,and_true,and_false]at a0
 ·rcases a2 with h'|h'|h'|h'|h'|h'|h'|h'|h'|h'|h'|h'|h'|h'|h'|h'|h'|h'|h'
  all_goals
   rw[show aP im.classes im.sigs bd x=_ from by simp only[aP,aL,h',hcl];rfl,h'];clear h112 h99 h103 h' hx
   go_in
   go_wp2_with fail;go_ret;exact⟨rfl,(But.alloc _ _ _).trans (But.alloc _ _ _)⟩
 ·simp only[a0,or_false]at a2;rcases a2 with h'|h'|h'|h'|h'|h'|h'|h'|h'|h'|h'|h'|h'|h'|h'|h'|h'|h'
  all_goals
   rw[show aP im.classes im.sigs bd x=_ from by simp only[aP,aL,h'];rfl,h'];clear h112 h99 h103 a0 h' hx
   go_in
   go_wp2_with fail;go_ret;exact⟨rfl,(But.alloc _ _ _).trans (But.alloc _ _ _)⟩
end
end Go.Proofs.YtpfkkmacakjmbaaGreatDoor
