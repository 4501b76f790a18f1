import Derived.Test.YtpfkkmacakjmbaaGreatDoorP14
set_option maxRecDepth 100000
set_option maxHeartbeats 6400000
set_option linter.all false
namespace Go.Proofs.YtpfkkmacakjmbaaGreatDoor
section
open Sp
abbrev vr:=L_×Int×Nat
def jZ (x y:vr):Prop:=if y.2.2=9 then x.1<+:y.1\/y.1<+:x.1 else if x.2.2=5 then x.1<+:y.1 else x=y
def gS (z w:vr):Prop:=if z.2.2=9\/z.2.2=5 then z.1<+:w.1 else z=w
theorem jZ.same {x y:vr} (h:x=y):jZ x y:=by
 subst h;unfold jZ
 split
 .exact Or.inl (fy _)
 split
 .exact fy _
 .rfl
theorem gS.same {x y:vr} (h:x=y):gS x y:=by
 subst h;unfold gS
 split
 .exact fy _
 .rfl
section
variable {im im':Img} {inp:ByteArray} {T:cG} {cells:Nat}
def tH:SR->Bool
 | .go _=>false
 |_=>true
theorem sm {k n:Nat} {R0 r:SR} (h:fS im inp T cells k R0=r) (hr:tH r=true) (hn:k<=n):fS im inp T cells n R0=r:=by
 obtain⟨d,rfl⟩:=Nat.exists_eq_add_of_le hn;rw[lU,h]
 cases r with
 |go m=>cases hr
 |bad e o=>exact iE _ _ _
 |fin v o=>exact kx _ _ _
theorem om (r:SR):(qC r).1=mZ r:=by cases r<;>rfl
theorem tI {R0 r:SR} {k:Nat} {o:L_} (h:mA im inp T cells R0 k r o) (ho:mZ r<+:o) (n:Nat):
  (tH r=true->k<=n->fS im inp T cells n R0=r\/ ∃o',fS im inp T cells n R0= .bad 9 o'/\o'<+:o)/\
  (n<=k->fS im inp T cells n R0=r\/((qC (fS im inp T cells n R0)).2.2=9\/(qC (fS im inp T cells n R0)).2.2=5)/\(qC (fS im inp T cells n R0)).1<+:o):=by
 constructor
 .intro hl hn;obtain h| ⟨o',h,hp⟩:=h
  .exact Or.inl (sm h hl hn)
  .exact Or.inr ⟨o',sm h rfl hn,hp⟩
 .intro hn;obtain e| ⟨m,e,hm⟩:=z7 (im:=im) (inp:=inp) (T:=T) (cells:=cells) hn R0
  .obtain h| ⟨o',h,hp⟩:=h
   .exact Or.inl (e.trans h)
   .rw[e,h];exact Or.inr ⟨Or.inl rfl,hp⟩
  .refine Or.inr ?_;rw[e];refine⟨Or.inr rfl,List.IsPrefix.trans hm ?_⟩;obtain h| ⟨o',h,hp⟩:=h
   .rw[h];exact ho
   .rw[h];exact hp
theorem yI (hI:oh im im') (hl:im'.zj.length=im.zj.length) {mb:Bod} (hm:im.zj[im.zj.length-1]?=some mb) (f:Nat) (hz: ∀o,bC im inp f mb 1 0 (aO mb []) ⟨[],0,f,[]⟩≠ .bad 0 o):
  ∃(R0:SR) (k:Nat) (r:SR),(∀n,iP im' inp T cells n=qC (fS im' inp T cells n R0))/\k<=4*f/\mA im' inp T cells R0 k r (mZ r)/\qC r=iM im inp f/\(tH r=true\/f<=25*k+24):=by
 obtain⟨mb',c,z,d,A,B,D,p⟩:=hI.bod _ _ hm;have a:=yH (inp:=inp) (T:=T) (cells:=cells) hI f mb mb' _ 0 0 z c d B p.left [] [] (aO mb []) ⟨[],0,f,[]⟩ (bG _);have em:im.zj.getD (im.zj.length-1) ⟨-1,-1,[],[]⟩=mb:=by rw[bM,hm];rfl
 have em':im'.zj.getD (im'.zj.length-1) ⟨-1,-1,[],[]⟩=mb':=by rw[bM,hl,d];rfl
 refine⟨.go ⟨[⟨im.zj.length-1,0,[],aO mb []⟩],⟨[],0,0,[]⟩⟩,?_⟩
 have i: ∀n,iP im' inp T cells n=qC (fS im' inp T cells n (.go ⟨[⟨im.zj.length-1,0,[],aO mb []⟩],⟨[],0,0,[]⟩⟩)):=λn=>by
  unfold iP;rw[vp,em',hl,show aO mb' []=aO mb []from by unfold aO;rw[A]]
 have ee:iM im inp f=match bC im inp f mb 1 0 (aO mb []) ⟨[],0,f,[]⟩with
   | .bad e o=>(o,0,e)
   | .ok v _ s=>(s.out,v.N,0):=by unfold iM;rw[em];rfl
 rw[ee];obtain⟨_,a⟩:=a;have q:([]:List Fm).length+1=1:=rfl;rw[q]at a
 cases hn:bC im inp f mb 1 0 (aO mb []) ⟨[],0,f,[]⟩with
 |ok v l s=>
  rw[hn]at a;obtain⟨j,k,g1,g2,b⟩:=a;have j:s.left<=f:=j;have g2:(k:Int)<=4*(f-s.left)+ -2:=g2;refine⟨k+1,.fin v s.out,i,by omega,b.trans (fy _) (Or.inl ?_),rfl,Or.inl rfl⟩;obtain⟨y,k1,k2,k3,C⟩:=fT (inp:=inp) (T:=T) (cells:=cells) (rest:=[]) d p.right ([]++ [v]) l (mz s)
  show fc im' inp T cells ⟨⟨im.zj.length-1,0+c.length,[]++ [v],l⟩:: [],mz s⟩=_
  rw[C];simp only[Sp.stepX,k1,iK];rfl
 |bad e o=>
  rw[hn]at a;have g:e≠0:=λh=>hz o (by rw[hn,h])
  obtain a| ⟨k,g1,g2⟩:=a
  .exact absurd a g
  have g1:(k:Int)<=4*f+0:=g1
  by_cases he:e=5
  .subst he;obtain⟨b,m,t,x⟩:=g2;have b:f<=25*k+z:=b;subst t;exact⟨k,.go m,i,by omega,x,rfl,Or.inr (by omega)⟩
  .rw[if_neg he]at g2;exact⟨k,.bad e o,i,by omega,g2,rfl,Or.inl rfl⟩
theorem Di (hI:oh im im') (hl:im'.zj.length=im.zj.length) {mb:Bod} (hm:im.zj[im.zj.length-1]?=some mb) (f:Nat) (hz: ∀o,bC im inp f mb 1 0 (aO mb []) ⟨[],0,f,[]⟩≠ .bad 0 o):jZ (iM im inp f) (iP im' inp T cells (8*f+8)):=by
 obtain⟨a,k,r,i,l,b,g,j⟩:=yI (inp:=inp) (T:=T) (cells:=cells) hI hl hm f hz;rw[i,<-g]
 by_cases hl:tH r=true
 .obtain e| ⟨o',e,hp⟩:=(tI b (fy _) (8*f+8)).1 hl (by omega)
  .rw[e];exact jZ.same rfl
  .rw[e];exact Or.inr (by rw[om r];exact hp)
 .cases r with
  |go m=>
   have hp:m.ev.out<+:(qC (fS im' inp T cells (8*f+8) a)).1\/(qC (fS im' inp T cells (8*f+8) a)).2.2=9/\(qC (fS im' inp T cells (8*f+8) a)).1<+:m.ev.out:=by
    obtain⟨d,c⟩:=Nat.exists_eq_add_of_le (show k<=8*f+8 by omega);rw[c,lU];obtain h| ⟨o',h,hp⟩:=b
    .rw[h,om];exact Or.inl (qD d (.go m))
    .rw[h,iE];exact Or.inr ⟨rfl,hp⟩
   show jZ (m.ev.out,0,5) _
   unfold jZ
   split
   .obtain hp| ⟨_,hp⟩:=hp
    .exact Or.inl hp
    .exact Or.inr hp
   .rename_i h9
    rw[if_pos rfl];obtain hp| ⟨h,_⟩:=hp
    .exact hp
    .exact absurd h h9
  |bad e o=>exact absurd rfl hl
  |fin v o=>exact absurd rfl hl
theorem BM (hI:oh im im') (hl:im'.zj.length=im.zj.length) {mb:Bod} (hm:im.zj[im.zj.length-1]?=some mb) (f:Nat) (hz: ∀o,bC im inp (100*f+100) mb 1 0 (aO mb []) ⟨[],0,100*f+100,[]⟩≠ .bad 0 o):gS (iP im' inp T cells f) (iM im inp (100*f+100)):=by
 obtain⟨i,k,r,g,j,c,d,a⟩:=yI (inp:=inp) (T:=T) (cells:=cells) hI hl hm (100*f+100) hz;rw[g,<-d];have b: ∀{z w:vr},z.2.2=9\/z.2.2=5->z.1<+:w.1->gS z w:=λ{z w} h hp=>by unfold gS;rw[if_pos h];exact hp
 obtain h|h:=ju k f
 .obtain a|a:=a
  .obtain e| ⟨o',e,hp⟩:=(tI c (fy _) f).1 a (by omega)
   .rw[e];exact gS.same rfl
   .rw[e];exact b (Or.inl rfl) (by rw[om r];exact hp)
  .omega
 .obtain e| ⟨h9,hp⟩:=(tI c (fy _) f).2 h
  .rw[e];exact gS.same rfl
  .exact b h9 (by rw[om r];exact hp)
end
section
variable (cs:List Cls) (gs:List Sig) (bd:Bod)
def RF (F:Nat->Option L_) (j:Int) (s:L_):Prop:=j<0\/ ∃s',F j.toNat=some s'/\leL cs s s'
def Ok1 (F:Nat->Option L_) (p:Nat) (x:Ins):Prop:= ∃s s' l',F p=some s/\cX cs gs bd x s bd.zy=some (s',l')/\leL cs l' bd.zy/\RF cs F (dJ x p).1 s'/\RF cs F (dJ x p).2 s'
def OkC (F:Nat->Option L_) (p:Nat) (c:List Ins):Prop:= ∀k x,c[k]?=some x->Ok1 cs gs bd F (p+k) x
def Ag (F:Nat->Option L_) (p:Nat) (H:List L_):Prop:= ∀k s,H[k]?=some s->F (p+k)=some s
def TyC (p:Nat) (c:List Ins) (s e:L_):Prop:= ∃H:List L_,H.length=c.length/\(H++ [e])[0]?=some s/\ ∀F,Ag F p (H++ [e])->OkC cs gs bd F p c
end
section
variable {cs:List Cls} {gs:List Sig} {bd:Bod} {F:Nat->Option L_} {p:Nat}
theorem Ag.left {X Y:List L_} (h:Ag F p (X++Y)):Ag F p X:=λk s hk=>h k s (by rw[eQ (bn hk).1];exact hk)
theorem Ag.right {X Y:List L_} (h:Ag F p (X++Y)):Ag F (p+X.length) Y:=λk s hk=>by
 have:=h (X.length+k) s (by rw[gG (by omega),Nat.add_sub_cancel_left];exact hk)
 rwa [<-Nat.add_assoc]at this
theorem Ag.head {x:L_} {Y:List L_} (h:Ag F p (x::Y)):F p=some x:=h 0 x rfl
theorem Ag.tail {x:L_} {Y:List L_} (h:Ag F p (x::Y)):Ag F (p+1) Y:=λk s hk=>by
 have:=h (k+1) s hk
 rwa [show p+(k+1)=p+1+k from by omega]at this
theorem Ag.snoc {X:List L_} {e:L_} (h:Ag F p X) (he:F (p+X.length)=some e):Ag F p (X++ [e]):=λk s hk=>by
 obtain hl|hl|hl:=Nat.lt_trichotomy k X.length
 .rw[eQ hl]at hk;exact h k s hk
 .subst hl;rw[gG (bG _)]at hk;simp at hk;rw[<-hk];exact he
 .rw[gG (by omega)]at hk;have:=(bn hk).1;simp at this;omega
theorem Ag.first {X Y:List L_} {s:L_} (h:Ag F p (X++Y)) (h0:(X++Y)[0]?=some s):F p=some s:=h 0 s h0
theorem OkC.app {c d:List Ins} (h:OkC cs gs bd F p c) (k:OkC cs gs bd F (p+c.length) d):OkC cs gs bd F p (c++d):=λj x hj=>by
 obtain hl|hl:=ju j c.length
 .rw[eQ hl]at hj;exact h j x hj
 .rw[gG hl]at hj;have:=k _ x hj
  rwa [show p+c.length+(j-c.length)=p+j from by omega]at this
theorem OkC.cons {x:Ins} {d:List Ins} (h:Ok1 cs gs bd F p x) (k:OkC cs gs bd F (p+1) d):OkC cs gs bd F p (x::d):=λj y hj=>by
 cases j with
 |zero=>cases hj;exact h
 |succ j=>have:=k j y hj;rwa [show p+1+j=p+(j+1)from by omega]at this
theorem OkC.nil:OkC cs gs bd F p []:=λj y hj=>by simp at hj
theorem TyC.app {c d:List Ins} {s m e:L_} (h:TyC cs gs bd p c s m) (k:TyC cs gs bd (p+c.length) d m e):TyC cs gs bd p (c++d) s e:=by
 obtain⟨H,b,a,i⟩:=h;obtain⟨K,k1,k2,k3⟩:=k;have g: ∀j:Nat,(H++K++ [e])[j]?=(H++(K++ [e]))[j]?:=λj=>by rw[mP]
 refine⟨H++K,by simp[b,k1],?_,λF hF=> ?_⟩
 .rw[g]
  cases H with
  |nil=>simp at a;rw[a]at k2;exact k2
  |cons y H=>exact a
 .rw[mP]at hF;have f:=hF.right;refine OkC.app (i F (hF.left.snoc (f.first k2))) (k3 F ?_);rw[<-b];exact f
theorem TyC.up (hw:WfC cs) {c:List Ins} {s e e':L_} (h:TyC cs gs bd p c s e) (hc:c≠ []) (he:leL cs e e'):TyC cs gs bd p c s e':=by
 obtain⟨H,b,d,n⟩:=h;have r:0<H.length:=by rw[b];exact List.length_pos_iff.2 hc
 refine⟨H,b,by rw[eQ r]at d⊢;exact d,λF hF=> ?_⟩
 have q:=n (λj=>if j=p+H.length then some e else F j) (λk s' a=>by
  obtain hl|hl:=ju k H.length
  .show(if p+k=p+H.length then some e else F (p+k))=some s'
   rw[if_neg (by omega)];rw[eQ hl]at a;exact hF k s' (by rw[eQ hl];exact a)
  .have:=(bn a).1;simp at this;have ek:k=H.length:=by omega
   subst ek
   show(if p+H.length=p+H.length then some e else F (p+H.length))=some s'
   rw[if_pos rfl];simpa using a)
 have f: ∀j u,RF cs (λj=>if j=p+H.length then some e else F j) j u->RF cs F j u:=λj u hj=>by
  obtain hj| ⟨s',hj,hu⟩:=hj
  .exact Or.inl hj
  .refine Or.inr ?_;dsimp only at hj
   split at hj
   .rename_i ej
    cases hj
    exact⟨e',by rw[ej];exact hF.right.head,mi hw hu he⟩
   .exact⟨s',hj,hu⟩
 intro k x a;obtain⟨t,s2,l',a1,g,i,l,m⟩:=q k x a;refine⟨t,s2,l',?_,g,i,f _ _ l,f _ _ m⟩;dsimp only at a1
 rwa [if_neg (by have:=(bn a).1;omega)]at a1
theorem TyC.one {x:Ins} {s e l':L_} (h:cX cs gs bd x s bd.zy=some (e,l')) (hl:leL cs l' bd.zy) (hx:x.op.toNat≠116/\x.op.toNat≠106/\x.op.toNat≠102):TyC cs gs bd p [x] s e:=by
 refine⟨[s],rfl,rfl,λF hF=>OkC.cons ⟨s,e,l',hF.head,h,hl,?_,?_⟩ OkC.nil⟩
 .unfold dJ;rw[if_neg hx.1,if_neg hx.2.1,if_neg hx.2.2];exact Or.inr ⟨e,by rw[show((p:Int)+1).toNat=p+1 from by omega];exact hF.tail.head,bX _⟩
 .unfold dJ;rw[if_neg hx.1,if_neg hx.2.1,if_neg hx.2.2];exact Or.inl (by show(-1:Int)<0;decide)
theorem TyC.same {x:Ins} {s e:L_} (h:cX cs gs bd x s bd.zy=some (e,bd.zy)) (hx:x.op.toNat≠116/\x.op.toNat≠106/\x.op.toNat≠102):TyC cs gs bd p [x] s e:=TyC.one h (bX _) hx
theorem nW {a c:UInt8} (h:dz cs [a] [c]=true):bR cs a c=true:=by
 simpa[dz]using h
theorem nX {a b c d:UInt8} (h:dz cs [a,b] [c,d]=true):bR cs a c=true/\bR cs b d=true:=by
 simpa[dz,List.range_succ]using h
theorem qF {s:L_} {a c:UInt8} (h:bR cs a c=true):dz cs (s++ [a]) [c]=true:=
 rP (by simp) (λk hk=>by
  have:k=0:=by simpa using hk
  subst this;simpa[List.getD]using h)
theorem xC {s:L_} {a b c d:UInt8} (h:bR cs a c=true) (h':bR cs b d=true):dz cs (s++ [a]++ [b]) [c,d]=true:=
 rP (by simp) (λk hk=>by
  have:k=0\/k=1:=by simp at hk;omega
  obtain rfl|rfl:=this
  .simpa[List.getD,List.getElem?_append]using h
  .have e:(s++ [a]++ [b]).length- [c,d].length+1=s.length+1:=by simp
   rw[e];simpa[List.getD,List.getElem?_append]using h')
theorem pj {s:L_}:dz cs s []=true:=by simp[dz]
theorem mp {t:List Ins} {g:Nat->Option UInt8} {k:Nat} {ts:L_} (h:bO t g 1 k=some ts): ∃a,g k=some a/\ts=[a]:=by
 unfold bO at h
 split at h
 .cases h
 .rename_i a ha
  exact⟨a,ha,by simpa[bO]using h.symm⟩
theorem iu {t:List Ins} {g:Nat->Option UInt8} {k:Nat} {ts:L_} (h:bO t g 2 k=some ts): ∃a b,g k=some a/\g (bk t k)=some b/\ts=[a,b]:=by
 unfold bO at h
 split at h
 .cases h
 .rename_i a ha
  cases hp:bO t g 1 (bk t k)with
  |none=>rw[hp]at h;cases h
  |some us=>
   obtain⟨b,hb,rfl⟩:=mp hp;rw[hp]at h;exact⟨a,b,ha,hb,by simpa using h.symm⟩
theorem nV {t:List Ins} {g:Nat->Option UInt8} {k:Nat} {ts:L_} (h:bO t g 3 k=some ts): ∃a b c,g k=some a/\g (bk t k)=some b/\g (bk t (bk t k))=some c/\ts=[a,b,c]:=by
 unfold bO at h
 split at h
 .cases h
 .rename_i a ha
  cases hp:bO t g 2 (bk t k)with
  |none=>rw[hp]at h;cases h
  |some us=>
   obtain⟨b,c,hb,hc,rfl⟩:=iu hp;rw[hp]at h;exact⟨a,b,c,ha,hb,hc,by simpa using h.symm⟩
theorem BN (s:L_):TyC cs gs bd p [k0X] s (s++ [105]):=TyC.same (by simp[cX,k0X,bv,bu,arith,pj]) (by decide)
theorem BO (l:L_) (k:Nat):l.set k (l.getD k 0)=l:=by
 obtain h|h:=ju k l.length
 .rw[bM,aM h];simp
 .exact List.set_eq_of_length_le h
end
section
variable {cs:List Cls} {gs:List Sig} {bd:Bod} {t:List Ins} {p:Nat}
theorem Dj {x:Ins} (hlo: ∀c∈bd.zy,c.toNat≠45) (h0:ay x.op=0) (hl:aY x.op=true\/x.op.toNat=114\/x.op.toNat=122\/x.op.toNat=108\/x.op.toNat=110) {ty:UInt8} (h:ba cs gs bd.zy x []=some ty) (s:L_):TyC cs gs bd p [lfX x] s (s++ [ty]):=by
 by_cases hd:aY x.op=true
 .have hx:lfX x=⟨107,0,x.b,0⟩:=by simp[lfX,hd]
  simp only[aY,dl,dk]at hd
  have e:ty=105:=by
   have ha:arith x.op.toNat=false:=by
    unfold arith;rw[List.contains_eq_mem];simp;omega
   unfold ba cK bE at h;rw[ha]at h;simp[show x.op.toNat≠119 from by omega,show x.op.toNat≠115 from by omega,show x.op.toNat≠103 from by omega,show x.op.toNat≠112 from by omega,show x.op.toNat≠99 from by omega,show x.op.toNat≠101 from by omega,show x.op.toNat≠120 from by omega,show x.op.toNat≠44 from by omega,show x.op.toNat≠105 from by omega,show x.op.toNat≠111 from by omega,show x.op.toNat≠122 from by omega,show x.op.toNat≠108 from by omega,show x.op.toNat≠110 from by omega]at h;exact h.symm
  rw[hx,e];exact TyC.same (by simp[cX,bv,bu,arith,pj]) (by simp)
 .have hx:lfX x=⟨x.op,x.a,x.b,0⟩:=by simp[lfX,hd]
  rw[hx];have hn:x.op.toNat≠116/\x.op.toNat≠106/\x.op.toNat≠102:=by rcases hl with hl|hl|hl|hl|hl<;>first|exact absurd hl hd|omega
  obtain hl|hl|hl|hl|hl:=hl
  .exact absurd hl hd
  .have e:ty=105:=by simp[ba,cK,bE,arith,hl]at h;simpa[List.getD]using h.symm
   rw[e];exact TyC.same (by simp[cX,bv,bu,arith,pj,hl]) hn
  .have e:ty=122:=by simp[ba,cK,bE,arith,hl]at h;simpa[List.getD]using h.symm
   rw[e];exact TyC.same (by simp[cX,bv,bu,arith,pj,hl]) hn
  .have e:ty=bd.zy.getD x.b 0:=by simp[ba,cK,bE,arith,hl]at h;simpa[List.getD]using h.symm
   rw[e]
   have d:(bd.zy.getD x.b 0).toNat≠45:=by
    rw[bM]
    cases hb:bd.zy[x.b]? with
    |none=>decide
    |some c=>exact hlo c (a9 hb)
   exact TyC.same (by simp only[cX,hl];simp[-List.getD_eq_getElem?_getD,d]) hn
  .have e:ty=cE x.a:=by simp[ba,cK,bE,arith,hl]at h;simpa[List.getD]using h.symm
   rw[e];exact TyC.same (by simp[cX,bv,bu,arith,pj,hl]) hn
theorem EE {x:Ins} {a:UInt8} (h1:ay x.op=1) {ty:UInt8} (h:ba cs gs bd.zy x [a]=some ty) (s:L_):TyC cs gs bd p (dy x) (s++ [a]) (s++ [ty]):=by
 obtain ho|ho|ho|ho:=qE h1
 .have hx:dy x=[⟨x.op,x.a,x.b,0⟩]++ [k0X]:=by simp[dy,ho]
  have e:ty=105/\bR cs a (bd.zy.getD x.b 0)=true:=by
   simp only[ba,cK,bE,arith,ho]at h;simp at h;exact⟨h.2.symm,by simpa[bM]using nW h.1⟩
  rw[hx,e.1];refine TyC.app (m:=s) (TyC.one (l':=bd.zy.set x.b a) ?_ ?_ ⟨by simp[ho],by simp[ho],by simp[ho]⟩) (BN s)
  .simp[cX,eg,bu,arith,ho,List.getD]
  .have:=sV x.b (bX (cs:=cs) bd.zy) e.2
   rwa [BO]at this
 .have hx:dy x=[⟨x.op,x.a,x.b,0⟩]:=by simp[dy,ho]
  have e:ty=dc cs x.a x.b/\bR cs a (cE x.a)=true:=by
   simp only[ba,cK,bE,arith,ho]at h;simp at h;exact⟨h.2.symm,nW h.1⟩
  rw[hx,e.1];exact TyC.same (by simp[cX,bv,bu,arith,ho,qF e.2]) ⟨by simp[ho],by simp[ho],by simp[ho]⟩
 .have hx:dy x=[⟨x.op,x.a,x.b,0⟩]:=by simp[dy,ho]
  have e:ty=cE x.a/\isR a=true:=by
   simp only[ba,cK,bE,arith,ho]at h;simp at h;exact⟨h.2.symm,h.1⟩
  rw[hx,e.1];exact TyC.same (by simp[cX,eg,bu,arith,ho,List.getD,e.2]) ⟨by simp[ho],by simp[ho],by simp[ho]⟩
 .have hx:dy x=[⟨x.op,x.a,x.b,0⟩]++ [k0X]:=by simp[dy,ho]
  have e:ty=105/\bR cs a 105=true:=by
   simp only[ba,cK,bE,arith,ho]at h;simp at h;exact⟨h.2.symm,nW h.1⟩
  rw[hx,e.1];exact TyC.app (m:=s) (TyC.same (by simp[cX,bv,bu,arith,ho,qF e.2]) ⟨by simp[ho],by simp[ho],by simp[ho]⟩) (BN s)
theorem FK (s:L_) (a b:UInt8):(s++ [a]++ [b]).take ((s++ [a]++ [b]).length-2)=s:=by simp
theorem EF {x:Ins} {a b:UInt8} (h2:ay x.op=2) (h44:x.op.toNat≠44) (h111:x.op.toNat≠111) {ty:UInt8} (h:ba cs gs bd.zy x [a,b]=some ty) (s:L_):TyC cs gs bd p (dy x) (s++ [a]++ [b]) (s++ [ty]):=by
 obtain ho|ho|ho|ho|ho|ho:=tG h2
 .have d:=ho;simp only[arith,List.contains_iff_mem,List.mem_cons,List.not_mem_nil,or_false]at d;have hx:dy x=[⟨x.op,x.a,x.b,0⟩]:=by unfold dy;rw[if_neg (by omega)]
  have e:ty=105/\bR cs a 105=true/\bR cs b 105=true:=by
   unfold ba cK at h;rw[if_pos ho]at h
   split at h
   .cases h
   rename_i c
   have c:dz cs [a,b] [105,105]=true:=by simpa using c
   simp only[show¬x.op.toNat=101 from by omega,show¬x.op.toNat=120 from by omega,show¬x.op.toNat=44 from by omega,show¬x.op.toNat=105 from by omega,show¬x.op.toNat=111 from by omega,show¬x.op.toNat=122 from by omega,show¬x.op.toNat=108 from by omega,show¬x.op.toNat=110 from by omega,show¬x.op.toNat=103 from by omega,show¬x.op.toNat=99 from by omega,if_false,bE]at h
   cases h
   exact⟨rfl,nX c⟩
  rw[hx,e.1];refine TyC.same ?_ ⟨by show x.op.toNat≠116;omega,by show x.op.toNat≠106;omega,by show x.op.toNat≠102;omega⟩;have ep:bv cs gs bd ⟨x.op,x.a,x.b,0⟩=[105,105]:=by unfold bv;rw[if_neg (by show¬(x.op.toNat=119\/x.op.toNat=102);omega),if_pos ho]
  have eq:bu cs gs ⟨x.op,x.a,x.b,0⟩=[105]:=by unfold bu;rw[if_pos (Or.inr (Or.inr (Or.inl ho)))]
  unfold cX;rw[if_neg (by show¬(x.op.toNat=115\/x.op.toNat=100\/x.op.toNat=101\/x.op.toNat=120);omega),if_neg (by show¬x.op.toNat=108;omega),ep,eq,if_pos (xC e.2.1 e.2.2)]
  show some (List.take ((s++ [a]++ [b]).length-2) _++_,_)=_
  rw[FK]
 .have hx:dy x=[⟨x.op,x.a,x.b,0⟩]:=by simp[dy,ho]
  have e:ty=105/\isR a=true/\isR b=true:=by
   simp only[ba,cK,bE,arith,ho]at h;simp at h;exact⟨h.2.symm,h.1⟩
  rw[hx,e.1];exact TyC.same (by simp[cX,eg,bu,arith,ho,List.getD,List.getElem?_append,e.2.1,e.2.2,show¬(s.length+2<2)from by omega]) ⟨by simp[ho],by simp[ho],by simp[ho]⟩
 .have hx:dy x=[⟨x.op,x.a,x.b,0⟩]++ [k0X]:=by simp[dy,ho]
  have e:ty=105/\bR cs a (cE x.a)=true/\bR cs b (dc cs x.a x.b)=true:=by
   simp only[ba,cK,bE,arith,ho]at h;simp at h;exact⟨h.2.symm,nX h.1⟩
  rw[hx,e.1];refine TyC.app (m:=s) (TyC.same ?_ ⟨by simp[ho],by simp[ho],by simp[ho]⟩) (BN s);have c:=xC (s:=s) e.2.1 e.2.2;simp only[cX,bv,bu,arith,ho];simp[-List.append_assoc,c];simp
 .have hx:dy x=[⟨x.op,x.a,x.b,0⟩]:=by simp[dy,ho]
  have e:ty=gI gs x.b/\bR cs a (cE x.a)=true/\bR cs b (jv gs x.b)=true:=by
   simp only[ba,cK,bE,arith,ho]at h;simp at h;exact⟨h.2.symm,nX h.1⟩
  rw[hx,e.1];refine TyC.same ?_ ⟨by simp[ho],by simp[ho],by simp[ho]⟩;have c:=xC (s:=s) e.2.1 e.2.2;simp only[cX,bv,bu,arith,ho];simp[-List.append_assoc,c];simp
 .exact absurd ho h44
 .exact absurd ho h111
end
section
variable {cs:List Cls} {gs:List Sig} {bd:Bod} {t:List Ins}
theorem mw {f i:Nat} {ty:UInt8} {lo:L_} {x:Ins} (h:cA cs gs lo t f i=some ty) (hx:t[i]?=some x): ∃g ts,bO t (cA cs gs lo t g) (ay x.op) (i+1)=some ts/\ba cs gs lo x ts=some ty:=by
 cases f with
 |zero=>cases h
 |succ f=>
  unfold cA at h;rw[hx]at h;dsimp only at h
  split at h
  .cases h
  .rename_i ts hp
   exact⟨f,ts,hp,h⟩
theorem Cmp.pos {i p z:Nat} {c:List Ins} (h:Cmp t i p c z):c≠ []:=by
 cases h<;>simp[dy]
theorem EG (hw:WfC cs) (hlo: ∀c∈bd.zy,c.toNat≠45) {i p z:Nat} {c:List Ins} (h:Cmp t i p c z): ∀(f:Nat) (ty:UInt8) (s:L_),cA cs gs bd.zy t f i=some ty->TyC cs gs bd p c s (s++ [ty]):=by
 induction h with
 |leaf hx h0 hl=>
  intro f ty s ht;obtain⟨g,ts,hp,hn⟩:=mw ht hx;rw[h0]at hp
  cases hp
  exact Dj hlo h0 hl hn s
 |one hx h1 hA ih=>
  intro f ty s ht;obtain⟨g,ts,hp,hn⟩:=mw ht hx;rw[h1]at hp;obtain⟨a,ha,rfl⟩:=mp hp;exact(ih g a s ha).app (EE h1 hn s)
 |two hx h2 h44 h111 hA hB ihA ihB=>
  intro f ty s ht;obtain⟨g,ts,hp,hn⟩:=mw ht hx;rw[h2]at hp;obtain⟨a,b,ha,hb,rfl⟩:=iu hp;exact(ihA g a s ha).app ((ihB g b (s++ [a]) hb).app (EF h2 h44 h111 hn s))
 | @seq i p x A B zA zB hx hc hA hB ihA ihB=>
  intro f ty s ht;obtain⟨g,ts,hp,hn⟩:=mw ht hx;rw[show ay x.op=2 from by simp[ay,hc]]at hp;obtain⟨a,b,ha,hb,rfl⟩:=iu hp
  have e:ty=b:=by
   simp only[ba,cK,arith,hc]at hn;simp at hn;exact hn.symm
  rw[e];have L:TyC cs gs bd (p+A.length) [⟨100,0,0,0⟩] (s++ [a]) s:=TyC.same (by simp[cX,eg,bu,arith]) (by decide);exact(ihA g a s ha).app (L.app (d:=B) (ihB g b s hb))
 | @cho i p x A B C zA zB zC hx hc hA hB hC ihA ihB ihC=>
  intro f ty s ht;obtain⟨g,ts,hp,hn⟩:=mw ht hx;rw[show ay x.op=3 from by simp[ay,hc]]at hp;obtain⟨a,b,c,ha,hb,G,rfl⟩:=nV hp
  have e:a.toNat=105/\ty=gr cs b c:=by
   simp only[ba,cK,arith,hc]at hn;simp at hn;exact⟨hn.1.1,hn.2.symm⟩
  obtain⟨ea,rfl⟩:=e;have ea:a=105:=ck ea;subst ea;have I:=mh hw b c;have l1:leL cs (s++ [b]) (s++ [gr cs b c]):=ig (bX _) ⟨I.1,trivial⟩;have l2:leL cs (s++ [c]) (s++ [gr cs b c]):=ig (bX _) ⟨I.2.1,trivial⟩;obtain⟨j,a1,q,D⟩:=ihA g 105 s ha;obtain⟨m,b1,b2,b3⟩:=ihB g b s hb;obtain⟨v,c1,c2,c3⟩:=(ihC g c s G).up hw hC.pos l2;refine⟨j++((s++ [105])::(m++((s++ [b])::v))),by simp[a1,b1,c1],?_,λF hF=> ?_⟩
  .cases j with
   |nil=>simp at q
   |cons y j=>exact q
  .have E:j++((s++ [105])::(m++((s++ [b])::v)))++ [s++ [gr cs b c]]=j++((s++ [105])::(m++((s++ [b])::(v++ [s++ [gr cs b c]])))):=by simp
   rw[E]at hF;have n:=hF.right;have l:=n.tail;have k:=l.right;have r:=k.tail;rw[a1]at n l k r;rw[b1]at k r;have fA:=n.head;have fJ:=k.head
   have fB:F (p+A.length+1)=some s:=by
    have:=l.left.snoc (by rw[b1];exact fJ);exact this 0 s b2
   have fC:F (p+A.length+1+B.length+1)=some s:=r 0 s c2
   have fE:F (p+A.length+1+B.length+1+C.length)=some (s++ [gr cs b c]):=by
    have:=r.right.head
    rwa [c1]at this
   refine OkC.app (D F (hF.left.snoc (by rw[a1];exact fA))) (OkC.cons ?_ (OkC.app (b3 F (l.left.snoc (by rw[b1];exact fJ))) (OkC.cons ?_ (c3 F r))))
   .refine⟨s++ [105],s,bd.zy,fA,by have H:=qF (cs:=cs) (s:=s) (gu (105:UInt8));simp[cX,bv,bu,arith,H],bX _,Or.inr ⟨s,?_,bX _⟩,Or.inr ⟨s,?_,bX _⟩⟩
    .show F (((p+A.length:Nat):Int)+1).toNat=some s
     rw[show(((p+A.length:Nat):Int)+1).toNat=p+A.length+1 from by omega];exact fB
    .exact fC
   .refine⟨s++ [b],s++ [b],bd.zy,fJ,by simp[cX,bv,bu,arith,pj,g8],bX _,Or.inr ⟨s++ [gr cs b c],fE,l1⟩,Or.inl (by show(-1:Int)<0;decide)⟩
 | @loo i p x A B zA zB hx hc hA hB ihA ihB=>
  intro f ty s ht;obtain⟨g,ts,hp,hn⟩:=mw ht hx;rw[show ay x.op=2 from by simp[ay,hc]]at hp;obtain⟨a,b,ha,hb,rfl⟩:=iu hp
  have e:a.toNat=105/\ty=105:=by
   simp only[ba,cK,arith,hc]at hn;simp at hn;exact⟨hn.1,hn.2.symm⟩
  obtain⟨ea,rfl⟩:=e;have ea:a=105:=ck ea;subst ea;obtain⟨j,a1,q,D⟩:=ihA g 105 s ha;obtain⟨m,b1,b2,b3⟩:=ihB g b s hb;refine⟨j++((s++ [105])::(m++ [s++ [b],s,s])),by simp[a1,b1],?_,λF hF=> ?_⟩
  .cases j with
   |nil=>simp at q
   |cons y j=>exact q
  .have E:j++((s++ [105])::(m++ [s++ [b],s,s]))++ [s++ [105]]=j++((s++ [105])::(m++ [s++ [b],s,s,s++ [105]])):=by simp
   rw[E]at hF;have n:=hF.right;have l:=n.tail;have k:=l.right;rw[a1]at n l k;rw[b1]at k;have fA:=n.head;have fD:=k.head;have fJ:=k.tail.head;have fK:=k.tail.tail.head;have fE:=k.tail.tail.tail.head
   have fB:F (p+A.length+1)=some s:=by
    have:=l.left.snoc (by rw[b1];exact fD);exact this 0 s b2
   have J:F p=some s:=by
    have:=hF.left.snoc (by rw[a1];exact fA);exact this 0 s q
   refine OkC.app (D F (hF.left.snoc (by rw[a1];exact fA))) (OkC.cons ?_ (OkC.app (b3 F (l.left.snoc (by rw[b1];exact fD))) (OkC.cons ?_ (OkC.cons ?_ (OkC.cons ?_ OkC.nil)))))
   .refine⟨s++ [105],s,bd.zy,fA,by have H:=qF (cs:=cs) (s:=s) (gu (105:UInt8));simp[cX,bv,bu,arith,H],bX _,Or.inr ⟨s,?_,bX _⟩,Or.inr ⟨s,fK,bX _⟩⟩
    show F (((p+A.length:Nat):Int)+1).toNat=some s
    rw[show(((p+A.length:Nat):Int)+1).toNat=p+A.length+1 from by omega];exact fB
   .refine⟨s++ [b],s,bd.zy,fD,by simp[cX,eg,bu,arith],bX _,Or.inr ⟨s,?_,bX _⟩,Or.inl (by show(-1:Int)<0;decide)⟩
    show F (((p+A.length+1+B.length:Nat):Int)+1).toNat=some s
    rw[show(((p+A.length+1+B.length:Nat):Int)+1).toNat=p+A.length+1+B.length+1 from by omega];exact fJ
   .exact⟨s,s,bd.zy,fJ,by simp[cX,bv,bu,arith,pj],bX _,Or.inr ⟨s,J,bX _⟩,Or.inl (by show(-1:Int)<0;decide)⟩
   .refine⟨s,s++ [105],bd.zy,fK,by simp[cX,k0X,bv,bu,arith,pj],bX _,Or.inr ⟨s++ [105],?_,bX _⟩,Or.inl (by show(-1:Int)<0;decide)⟩
    show F (((p+A.length+1+B.length+1+1:Nat):Int)+1).toNat=some (s++ [105])
    rw[show(((p+A.length+1+B.length+1+1:Nat):Int)+1).toNat=p+A.length+1+B.length+1+1+1 from by omega];exact fE
end
theorem so {cs:List Cls} {gs:List Sig} {b:Bod} {x y:Ins} (h1:y.op=x.op) (h2:y.a=x.a) (h3:y.b=x.b) (s l:L_):cX cs gs b y s l=cX cs gs b x s l:=by
 unfold cX bv bu;rw[h1,h2,h3]
theorem qG {x y:Ins} (h1:y.op=x.op) (h3:y.b=x.b) (i:Nat):dJ y i=dJ x i:=by
 unfold dJ;rw[h1,h3]
theorem Ab {im':Img} (hw:WfC im'.zq) {b b':Bod} (hl:b'.zy=b.zy) (hc:b'.cls=b.cls) (hm:b'.meth=b.meth) (hlo: ∀c∈b.zy,c.toNat≠45) {c:List Ins} {z:Nat} (hC:Cmp b.code 0 0 c z) (hh:Has b'.code 0 (c++ [⟨116,0,0,0⟩])) (hn:b'.code.length=c.length+1)
  {f:Nat} {ty:UInt8} (ht:cA im'.zq im'.zx b.zy b.code f 0=some ty) (hs:bR im'.zq ty (if b.cls<0 then 105 else gI im'.zx b.meth.toNat)=true): ∃H,oJ im' b' H:=by
 obtain⟨H,q,v,A⟩:=EG (bd:=b') hw (by rw[hl];exact hlo) hC f ty [] (by rw[hl];exact ht);have g:=A (λj=>(H++ [[ty]])[j]?) (λk s hk=>by rw[Nat.zero_add];exact hk);have h: ∀j:Nat,((H++ [[ty]]).map (λs=>(some (s,b'.zy):St)))[j]?=(H++ [[ty]])[j]?.map (λs=>some (s,b'.zy)):=λj=>by rw[cg]
 refine⟨(H++ [[ty]]).map (λs=>some (s,b'.zy)),⟨by simp[q,hn],⟨([],b'.zy),by rw[h];exact(congrArg (Option.map _) v),bX _,bX _⟩,λi x s l hx hs'=> ?_⟩⟩
 have d: ∀(j:Int) (u l':L_),leL im'.zq l' b'.zy->RF im'.zq (λj=>(H++ [[ty]])[j]?) j u->fL im'.zq ((H++ [[ty]]).map (λs=>some (s,b'.zy))) j (u,l'):=λj u l' hl' hj=>by
  obtain hj| ⟨s',hj,hu⟩:=hj
  .exact Or.inl hj
  .dsimp only at hj;exact Or.inr ⟨(s',b'.zy),by rw[h,hj];rfl,hu,hl'⟩
 have hi:i<c.length+1:=by rw[<-hn];exact(bn hx).1
 rw[h]at hs';obtain hlt|hge:=ju i c.length
 .obtain⟨y,g1,g2,e,a⟩:=hh i c[i] (by rw[eQ hlt,aM hlt]);rw[Nat.zero_add,hx]at g1
  cases g1
  obtain⟨B,s2,l',a1,t,m,n,p⟩:=g i c[i] (aM hlt);rw[Nat.zero_add]at a1 n p;dsimp only at a1;rw[a1]at hs';simp only[Option.map_some,Option.some.injEq,Prod.mk.injEq]at hs';obtain⟨rfl,rfl⟩:=hs';rw[so g2 e a,qG g2 a];exact⟨s2,l',t,d _ _ _ m n,d _ _ _ m p⟩
 .have ei:i=c.length:=by omega
  subst ei;obtain⟨y,g1,g2,e,a⟩:=hh c.length ⟨116,0,0,0⟩ (by rw[gG (bG _)];simp);rw[Nat.zero_add,hx]at g1
  cases g1
  rw[gG (by omega),q,Nat.sub_self]at hs';simp only[List.getElem?_cons_zero,Option.map_some,Option.some.injEq,Prod.mk.injEq]at hs';obtain⟨rfl,rfl⟩:=hs';rw[so g2 e a,qG g2 a]
  have hp:bv im'.zq im'.zx b' ⟨116,0,0,0⟩=[if b.cls<0 then 105 else gI im'.zx b.meth.toNat]:=by
   simp only[bv,arith,hc,hm]
   by_cases h0:b.cls<0<;>simp[h0]
  have r:=qF (s:=[]) hs;refine⟨[],b'.zy,?_,Or.inl (by show(-1:Int)<0;decide),Or.inl (by show(-1:Int)<0;decide)⟩;unfold cX;rw[hp];simp only[List.nil_append]at r;simp[r,bu,arith]
theorem oo: ∀{u:List Ins} {m k:Nat},full (m+k) u-> ∃a b,u=a++b/\full m a/\full k b
 |u,0,k,h=>⟨[],u,rfl,trivial,by rwa [Nat.zero_add]at h⟩
 | [],m+1,k,h=>by rw[show m+1+k=(m+k)+1 from by omega]at h;cases h
 |x::u,m+1,k,h=>by
  rw[show m+1+k=(m+k)+1 from by omega]at h;have h':full (m+ay x.op+k) u:=by rw[show m+ay x.op+k=m+k+ay x.op from by omega];exact h
  obtain⟨a,b,c,d,e⟩:=oo h';exact⟨x::a,b,by rw[c];rfl,d,e⟩
theorem Ac {u:List Ins} (h:full 0 u):u=[]:=by
 cases u with
 |nil=>rfl
 |cons x u=>cases h
theorem D9 {cs:List Cls} {ns nl:Nat} {x:Ins} (h:WfN cs ns nl x) (h0:ay x.op=0):aY x.op=true\/x.op.toNat=114\/x.op.toNat=122\/x.op.toNat=108\/x.op.toNat=110:=by
 have d:=h.op;simp only[dm,List.contains_iff_mem,List.mem_cons,List.not_mem_nil,or_false]at d;unfold ay at h0
 split at h0
 .cases h0
 split at h0
 .cases h0
 split at h0
 .cases h0
 rename_i a b c
 simp only[List.contains_iff_mem,List.mem_cons,List.not_mem_nil,or_false]at b c;simp only[aY,dl,dk];omega
theorem BP (c:UInt8):ay c=0\/ay c=1\/ay c=2\/(ay c=3/\c.toNat=105):=by
 unfold ay
 split
 .rename_i h;exact Or.inr (Or.inr (Or.inr ⟨rfl,h⟩))
 split
 .exact Or.inr (Or.inr (Or.inl rfl))
 split
 .exact Or.inr (Or.inl rfl)
 .exact Or.inl rfl
theorem EH {t:List Ins} (hl: ∀x∈t,ay x.op=0->aY x.op=true\/x.op.toNat=114\/x.op.toNat=122\/x.op.toNat=108\/x.op.toNat=110): ∀(N:Nat) (u:List Ins),u.length<=N->full 1 u-> ∀(i p:Nat) (v:List Ins),t.drop i=u++v-> ∃c,Cmp t i p c u.length:=by
 intro N
 induction N with
 |zero=>
  intro u n b
  cases u with
  |nil=>cases b
  |cons x u=>simp at n
 |succ N ih=>
  intro u n b i p v y
  cases u with
  |nil=>cases b
  |cons x u=>
   have hx:t[i]?=some x:=by
    have:(t.drop i)[0]?=some x:=by rw[y];rfl
    rwa [List.getElem?_drop,Nat.add_zero]at this
   have a:t.drop (i+1)=u++v:=by
    rw[<-List.drop_drop,y];rfl
   have b:full (ay x.op) u:=by
    have:full (0+ay x.op) u:=b
    rwa [Nat.zero_add]at this
   have n:u.length<=N:=by simpa using n
   have f: ∀{j:Nat} {d v1:List Ins},t.drop j=d++v1->full 1 d->bk t j=j+d.length/\t.drop (bk t j)=v1:=λ{j d v1} h1 h2=>by
    have e:bk t j=j+d.length:=by unfold bk;rw[h1,sR h2]
    exact⟨e,by rw[e,<-List.drop_drop,h1];simp⟩
   obtain ha|ha|ha| ⟨ha,h105⟩:=BP x.op
   .rw[ha]at b;rw[Ac b];exact⟨_,Cmp.leaf hx ha (hl x (a9 hx) ha)⟩
   .rw[ha]at b;obtain⟨A,h⟩:=ih u n b (i+1) p v a;exact⟨_,Cmp.one hx ha h⟩
   .rw[ha]at b;obtain⟨d,g,rfl,g1,g2⟩:=oo (m:=1) (k:=1) b;rw[aV]at n;rw[mP]at a;have q:=f a g1;obtain⟨A,h⟩:=ih d (by omega) g1 (i+1) p _ a;have el:(x::(d++g)).length=d.length+g.length+1:=by simp
    rw[el]
    by_cases h44:x.op.toNat=44
    .obtain⟨B,l⟩:=ih g (by omega) g2 (bk t (i+1)) (p+A.length+1) v q.2;exact⟨_,Cmp.seq hx h44 h l⟩
    by_cases h111:x.op.toNat=111
    .obtain⟨B,l⟩:=ih g (by omega) g2 (bk t (i+1)) (p+A.length+1) v q.2;exact⟨_,Cmp.loo hx h111 h l⟩
    .obtain⟨B,l⟩:=ih g (by omega) g2 (bk t (i+1)) (p+A.length) v q.2;exact⟨_,Cmp.two hx ha h44 h111 h l⟩
   .rw[ha]at b;obtain⟨d,u',rfl,g1,g'⟩:=oo (m:=1) (k:=2) b;obtain⟨g,s,rfl,g2,z⟩:=oo (m:=1) (k:=1) g';rw[aV,aV]at n;rw[mP,mP]at a;have q:=f a g1;have r:=f q.2 g2;obtain⟨A,h⟩:=ih d (by omega) g1 (i+1) p _ a;obtain⟨B,l⟩:=ih g (by omega) g2 (bk t (i+1)) (p+A.length+1) _ q.2;obtain⟨C,D⟩:=ih s (by omega) z (bk t (bk t (i+1))) (p+A.length+1+B.length+1) _ r.2;have el:(x::(d++(g++s))).length=d.length+g.length+s.length+1:=by simp;omega
    rw[el];exact⟨_,Cmp.cho hx h105 h l D⟩
def InC (t:List Ins) (p n:Nat) (x:Ins):Prop:=x=k0X\/x=⟨100,0,0,0⟩\/(∃y∈t,x=lfX y/\ay y.op=0)\/(∃y∈t,x=⟨y.op,y.a,y.b,0⟩/\(ay y.op=1\/ay y.op=2/\y.op.toNat≠44/\y.op.toNat≠111))\/((x.op=102\/x.op=106)/\x.a=0/\x.b<=p+n)
theorem InC.up {t:List Ins} {p p' n n':Nat} {x:Ins} (h:InC t p n x) (hp:p+n<=p'+n'):InC t p' n' x:=by
 obtain h|h|h|h| ⟨h1,h2,h3⟩:=h
 .exact Or.inl h
 .exact Or.inr (Or.inl h)
 .exact Or.inr (Or.inr (Or.inl h))
 .exact Or.inr (Or.inr (Or.inr (Or.inl h)))
 .exact Or.inr (Or.inr (Or.inr (Or.inr ⟨h1,h2,by omega⟩)))
theorem BQ {t:List Ins} {p n:Nat} {y:Ins} (hy:y∈t) (ha:ay y.op=1\/ay y.op=2/\y.op.toNat≠44/\y.op.toNat≠111): ∀x∈dy y,InC t p n x:=by
 intro x hx;unfold dy at hx;rw[List.mem_cons]at hx;obtain rfl|hx:=hx
 .exact Or.inr (Or.inr (Or.inr (Or.inl ⟨y,hy,rfl,ha⟩)))
 .split at hx
  .rw[List.mem_singleton]at hx;exact Or.inl hx
  .cases hx
theorem yJ (y:Ins):(dy y).length<=2:=by unfold dy;split<;>simp
theorem Cmp.all {t:List Ins} {i p z:Nat} {c:List Ins} (h:Cmp t i p c z):c.length<=4*z/\ ∀x∈c,InC t p c.length x:=by
 induction h with
 |leaf hx h0 hl=>exact⟨by simp,λx h=>by rw[List.mem_singleton]at h;exact Or.inr (Or.inr (Or.inl ⟨_,a9 hx,h,h0⟩))⟩
 | @one i p x A z hx h1 hA ih=>
  have:=yJ x;refine⟨by rw[aV];omega,λy hy=> ?_⟩;obtain hy|hy:=gH hy
  .exact(ih.2 y hy).up (by rw[aV];omega)
  .exact BQ (a9 hx) (Or.inl h1) y hy
 | @two i p x A B z y hx h2 h44 h111 hA hB ihA ihB=>
  have:=yJ x;refine⟨by rw[aV,aV];omega,λy hy=> ?_⟩;rw[aV,aV];obtain hy|hy:=gH hy
  .exact(ihA.2 y hy).up (by omega)
  obtain hy|hy:=gH hy
  .exact(ihB.2 y hy).up (by omega)
  .exact BQ (a9 hx) (Or.inr ⟨h2,h44,h111⟩) y hy
 |seq hx hc hA hB ihA ihB=>
  refine⟨by rw[aV,ie];omega,λy hy=> ?_⟩;rw[aV,ie];obtain hy|hy:=gH hy
  .exact(ihA.2 y hy).up (by omega)
  obtain hy|hy:=List.mem_cons.1 hy
  .exact Or.inr (Or.inl hy)
  .exact(ihB.2 y hy).up (by omega)
 |cho hx hc hA hB hC ihA ihB ihC=>
  refine⟨by rw[aV,ie,aV,ie];omega,λy hy=> ?_⟩;rw[aV,ie,aV,ie];obtain hy|hy:=gH hy
  .exact(ihA.2 y hy).up (by omega)
  obtain hy|hy:=List.mem_cons.1 hy
  .subst hy;exact Or.inr (Or.inr (Or.inr (Or.inr ⟨Or.inl rfl,rfl,by show _+_+1+_+1<=_;omega⟩)))
  obtain hy|hy:=gH hy
  .exact(ihB.2 y hy).up (by omega)
  obtain hy|hy:=List.mem_cons.1 hy
  .subst hy;exact Or.inr (Or.inr (Or.inr (Or.inr ⟨Or.inr rfl,rfl,by show _+_+1+_+1+_<=_;omega⟩)))
  .exact(ihC.2 y hy).up (by omega)
 |loo hx hc hA hB ihA ihB=>
  refine⟨by rw[aV,ie,aV];simp;omega,λy hy=> ?_⟩;rw[aV,ie,aV];obtain hy|hy:=gH hy
  .exact(ihA.2 y hy).up (by omega)
  obtain hy|hy:=List.mem_cons.1 hy
  .subst hy;exact Or.inr (Or.inr (Or.inr (Or.inr ⟨Or.inl rfl,rfl,by show _+_+1+_+2<=_;simp;omega⟩)))
  obtain hy|hy:=gH hy
  .exact(ihB.2 y hy).up (by omega)
  simp only[List.mem_cons,List.not_mem_nil,or_false]at hy;obtain rfl|rfl|rfl:=hy
  .exact Or.inr (Or.inl rfl)
  .exact Or.inr (Or.inr (Or.inr (Or.inr ⟨Or.inr rfl,rfl,by dsimp only;omega⟩)))
  .exact Or.inl rfl
end
end Go.Proofs.YtpfkkmacakjmbaaGreatDoor
