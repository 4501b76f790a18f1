import Derived.Test.YtpfkkmacakjmbaaGreatDoorP18
set_option maxRecDepth 100000
set_option maxHeartbeats 6400000
set_option linter.all false
namespace Go.Proofs.YtpfkkmacakjmbaaGreatDoor
section
open Sp
abbrev vR:=L_×Int×Nat
def jT (x y:vR):Prop:=if y.2.2=9 then x.1<+:y.1\/y.1<+:x.1 else if x.2.2=5 then x.1<+:y.1 else x=y
def gv (z w:vR):Prop:=if z.2.2=9\/z.2.2=5 then z.1<+:w.1 else z=w
theorem jT.same {x y:vR} (h:x=y):jT x y:=by
 subst h;unfold jT
 split
 .exact Or.inl (fT _)
 split
 .exact fT _
 .rfl
theorem gv.same {x y:vR} (h:x=y):gv x y:=by
 subst h;unfold gv
 split
 .exact fT _
 .rfl
section
variable {im im':Img} {inp:ByteArray} {T:dC} {cells:Nat}
def ue:SR->Bool
 | .go _=>false
 |_=>true
theorem sP {k n:Nat} {R0 r:SR} (h:gj im inp T cells k R0=r) (hr:ue r=true) (hn:k<=n):gj im inp T cells n R0=r:=by
 obtain⟨d,rfl⟩:=Nat.exists_eq_add_of_le hn;rw[lU,h]
 cases r with
 |go m=>cases hr
 |bad e o=>exact ja _ _ _
 |fin v o=>exact kJ _ _ _
theorem oh (r:SR):(qS r).1=m8 r:=by cases r<;>rfl
theorem uf {R0 r:SR} {k:Nat} {o:L_} (h:mF im inp T cells R0 k r o) (ho:m8 r<+:o) (n:Nat):
  (ue r=true->k<=n->gj im inp T cells n R0=r\/ ∃o',gj im inp T cells n R0= .bad 9 o'/\o'<+:o)/\
  (n<=k->gj im inp T cells n R0=r\/((qS (gj im inp T cells n R0)).2.2=9\/(qS (gj im inp T cells n R0)).2.2=5)/\(qS (gj im inp T cells n R0)).1<+:o):=by
 constructor
 .intro hl hn;obtain h| ⟨o',h,hp⟩:=h
  .exact Or.inl (sP h hl hn)
  .exact Or.inr ⟨o',sP h rfl hn,hp⟩
 .intro hn;obtain e| ⟨m,e,hm⟩:=Aa (im:=im) (inp:=inp) (T:=T) (cells:=cells) hn R0
  .obtain h| ⟨o',h,hp⟩:=h
   .exact Or.inl (e.trans h)
   .rw[e,h];exact Or.inr ⟨Or.inl rfl,hp⟩
  .refine Or.inr ?_;rw[e];refine⟨Or.inr rfl,List.IsPrefix.trans hm ?_⟩;obtain h| ⟨o',h,hp⟩:=h
   .rw[h];exact ho
   .rw[h];exact hp
theorem yv (hI:oe im im') (hl:im'.zj.length=im.zj.length) {mb:Bod} (hm:im.zj[im.zj.length-1]?=some mb) (f:Nat) (hz: ∀o,bY im inp f mb 1 0 (aL mb []) ⟨[],0,f,[]⟩≠ .bad 0 o):
  ∃(R0:SR) (k:Nat) (r:SR),(∀n,qj im' inp T cells n=qS (gj im' inp T cells n R0))/\k<=4*f/\mF im' inp T cells R0 k r (m8 r)/\qS r=mL im inp f/\(ue r=true\/f<=25*k+24):=by
 obtain⟨mb',c,z,i,C,D,F,t⟩:=hI.bod _ _ hm;have a:=yu (inp:=inp) (T:=T) (cells:=cells) hI f mb mb' _ 0 0 z c i D t.left [] [] (aL mb []) ⟨[],0,f,[]⟩ (bP _);have em:im.zj.getD (im.zj.length-1) ⟨-1,-1,[],[]⟩=mb:=by rw[bH,hm];rfl
 have em':im'.zj.getD (im'.zj.length-1) ⟨-1,-1,[],[]⟩=mb':=by rw[bH,hl,i];rfl
 refine⟨.go ⟨[⟨im.zj.length-1,0,[],aL mb []⟩],⟨[],0,0,[]⟩⟩,?_⟩
 have p: ∀n,qj im' inp T cells n=qS (gj im' inp T cells n (.go ⟨[⟨im.zj.length-1,0,[],aL mb []⟩],⟨[],0,0,[]⟩⟩)):=λn=>by
  unfold qj;rw[vP,em',hl,show aL mb' []=aL mb []from by unfold aL;rw[C]]
 have ee:mL im inp f=match bY im inp f mb 1 0 (aL mb []) ⟨[],0,f,[]⟩with
   | .bad e o=>(o,0,e)
   | .ok v _ s=>(s.out,v.N,0):=by unfold mL;rw[em];rfl
 rw[ee];obtain⟨_,a⟩:=a;have x:([]:List Fm).length+1=1:=rfl;rw[x]at a
 cases hn:bY im inp f mb 1 0 (aL mb []) ⟨[],0,f,[]⟩with
 |ok v l s=>
  rw[hn]at a;obtain⟨q,k,g,b,d⟩:=a;have q:s.left<=f:=q;have b:(k:Int)<=4*(f-s.left)+ -2:=b;refine⟨k+1,.fin v s.out,p,by omega,d.trans (fT _) (Or.inl ?_),rfl,Or.inl rfl⟩;obtain⟨y,k1,k2,G,E⟩:=gm (inp:=inp) (T:=T) (cells:=cells) (rest:=[]) i t.right ([]++ [v]) l (mz s)
  show f9 im' inp T cells ⟨⟨im.zj.length-1,0+c.length,[]++ [v],l⟩:: [],mz s⟩=_
  rw[E];simp only[Sp.stepX,k1,jg];rfl
 |bad e o=>
  rw[hn]at a;have j:e≠0:=λh=>hz o (by rw[hn,h])
  obtain a| ⟨k,g,b⟩:=a
  .exact absurd a j
  have g:(k:Int)<=4*f+0:=g
  by_cases he:e=5
  .subst he;obtain⟨d,m,A,B⟩:=b;have d:f<=25*k+z:=d;subst A;exact⟨k,.go m,p,by omega,B,rfl,Or.inr (by omega)⟩
  .rw[if_neg he]at b;exact⟨k,.bad e o,p,by omega,b,rfl,Or.inl rfl⟩
theorem Dg (hI:oe im im') (hl:im'.zj.length=im.zj.length) {mb:Bod} (hm:im.zj[im.zj.length-1]?=some mb) (f:Nat) (hz: ∀o,bY im inp f mb 1 0 (aL mb []) ⟨[],0,f,[]⟩≠ .bad 0 o):jT (mL im inp f) (qj im' inp T cells (8*f+8)):=by
 obtain⟨a,k,r,i,l,b,g,j⟩:=yv (inp:=inp) (T:=T) (cells:=cells) hI hl hm f hz;rw[i,<-g]
 by_cases hl:ue r=true
 .obtain e| ⟨o',e,hp⟩:=(uf b (fT _) (8*f+8)).1 hl (by omega)
  .rw[e];exact jT.same rfl
  .rw[e];exact Or.inr (by rw[oh r];exact hp)
 .cases r with
  |go m=>
   have hp:m.ev.out<+:(qS (gj im' inp T cells (8*f+8) a)).1\/(qS (gj im' inp T cells (8*f+8) a)).2.2=9/\(qS (gj im' inp T cells (8*f+8) a)).1<+:m.ev.out:=by
    obtain⟨d,c⟩:=Nat.exists_eq_add_of_le (show k<=8*f+8 by omega);rw[c,lU];obtain h| ⟨o',h,hp⟩:=b
    .rw[h,oh];exact Or.inl (qT d (.go m))
    .rw[h,ja];exact Or.inr ⟨rfl,hp⟩
   show jT (m.ev.out,0,5) _
   unfold jT
   split
   .obtain hp| ⟨_,hp⟩:=hp
    .exact Or.inl hp
    .exact Or.inr hp
   .rename_i h9
    rw[if_pos rfl];obtain hp| ⟨h,_⟩:=hp
    .exact hp
    .exact absurd h h9
  |bad e o=>exact absurd rfl hl
  |fin v o=>exact absurd rfl hl
theorem B2 (hI:oe im im') (hl:im'.zj.length=im.zj.length) {mb:Bod} (hm:im.zj[im.zj.length-1]?=some mb) (f:Nat) (hz: ∀o,bY im inp (100*f+100) mb 1 0 (aL mb []) ⟨[],0,100*f+100,[]⟩≠ .bad 0 o):gv (qj im' inp T cells f) (mL im inp (100*f+100)):=by
 obtain⟨i,k,r,g,j,c,d,a⟩:=yv (inp:=inp) (T:=T) (cells:=cells) hI hl hm (100*f+100) hz;rw[g,<-d];have b: ∀{z w:vR},z.2.2=9\/z.2.2=5->z.1<+:w.1->gv z w:=λ{z w} h hp=>by unfold gv;rw[if_pos h];exact hp
 obtain h|h:=gC k f
 .obtain a|a:=a
  .obtain e| ⟨o',e,hp⟩:=(uf c (fT _) f).1 a (by omega)
   .rw[e];exact gv.same rfl
   .rw[e];exact b (Or.inl rfl) (by rw[oh r];exact hp)
  .omega
 .obtain e| ⟨h9,hp⟩:=(uf c (fT _) f).2 h
  .rw[e];exact gv.same rfl
  .exact b h9 (by rw[oh r];exact hp)
end
section
variable (cs:List Cls) (gs:List Sig) (bd:Bod)
def RF (F:Nat->Option L_) (j:Int) (s:L_):Prop:=j<0\/ ∃s',F j.toNat=some s'/\leL cs s s'
def Ok1 (F:Nat->Option L_) (p:Nat) (x:Ins):Prop:= ∃s s' l',F p=some s/\cC cs gs bd x s bd.zy=some (s',l')/\leL cs l' bd.zy/\RF cs F (bR x p).1 s'/\RF cs F (bR x p).2 s'
def OkC (F:Nat->Option L_) (p:Nat) (c:List Ins):Prop:= ∀k x,c[k]?=some x->Ok1 cs gs bd F (p+k) x
def Ag (F:Nat->Option L_) (p:Nat) (H:List L_):Prop:= ∀k s,H[k]?=some s->F (p+k)=some s
def TyC (p:Nat) (c:List Ins) (s e:L_):Prop:= ∃H:List L_,H.length=c.length/\(H++ [e])[0]?=some s/\ ∀F,Ag F p (H++ [e])->OkC cs gs bd F p c
end
section
variable {cs:List Cls} {gs:List Sig} {bd:Bod} {F:Nat->Option L_} {p:Nat}
theorem Ag.left {X Y:List L_} (h:Ag F p (X++Y)):Ag F p X:=λk s hk=>h k s (by rw[dy (bc hk).1];exact hk)
theorem Ag.right {X Y:List L_} (h:Ag F p (X++Y)):Ag F (p+X.length) Y:=λk s hk=>by
 have:=h (X.length+k) s (by rw[f8 (by omega),Nat.add_sub_cancel_left];exact hk)
 rwa [<-Nat.add_assoc]at this
theorem Ag.head {x:L_} {Y:List L_} (h:Ag F p (x::Y)):F p=some x:=h 0 x rfl
theorem Ag.tail {x:L_} {Y:List L_} (h:Ag F p (x::Y)):Ag F (p+1) Y:=λk s hk=>by
 have:=h (k+1) s hk
 rwa [show p+(k+1)=p+1+k from by omega]at this
theorem Ag.snoc {X:List L_} {e:L_} (h:Ag F p X) (he:F (p+X.length)=some e):Ag F p (X++ [e]):=λk s hk=>by
 obtain hl|hl|hl:=Nat.lt_trichotomy k X.length
 .rw[dy hl]at hk;exact h k s hk
 .subst hl;rw[f8 (bP _)]at hk;simp at hk;rw[<-hk];exact he
 .rw[f8 (by omega)]at hk;have:=(bc hk).1;simp at this;omega
theorem Ag.first {X Y:List L_} {s:L_} (h:Ag F p (X++Y)) (h0:(X++Y)[0]?=some s):F p=some s:=h 0 s h0
theorem OkC.app {c d:List Ins} (h:OkC cs gs bd F p c) (k:OkC cs gs bd F (p+c.length) d):OkC cs gs bd F p (c++d):=λj x hj=>by
 obtain hl|hl:=gC j c.length
 .rw[dy hl]at hj;exact h j x hj
 .rw[f8 hl]at hj;have:=k _ x hj
  rwa [show p+c.length+(j-c.length)=p+j from by omega]at this
theorem OkC.cons {x:Ins} {d:List Ins} (h:Ok1 cs gs bd F p x) (k:OkC cs gs bd F (p+1) d):OkC cs gs bd F p (x::d):=λj y hj=>by
 cases j with
 |zero=>cases hj;exact h
 |succ j=>have:=k j y hj;rwa [show p+1+j=p+(j+1)from by omega]at this
theorem OkC.nil:OkC cs gs bd F p []:=λj y hj=>by simp at hj
theorem TyC.app {c d:List Ins} {s m e:L_} (h:TyC cs gs bd p c s m) (k:TyC cs gs bd (p+c.length) d m e):TyC cs gs bd p (c++d) s e:=by
 obtain⟨H,b,a,i⟩:=h;obtain⟨K,k1,k2,l⟩:=k;have g: ∀j:Nat,(H++K++ [e])[j]?=(H++(K++ [e]))[j]?:=λj=>by rw[ky]
 refine⟨H++K,by simp[b,k1],?_,λF hF=> ?_⟩
 .rw[g]
  cases H with
  |nil=>simp at a;rw[a]at k2;exact k2
  |cons y H=>exact a
 .rw[ky]at hF;have f:=hF.right;refine OkC.app (i F (hF.left.snoc (f.first k2))) (l F ?_);rw[<-b];exact f
theorem TyC.up (hw:WfC cs) {c:List Ins} {s e e':L_} (h:TyC cs gs bd p c s e) (hc:c≠ []) (he:leL cs e e'):TyC cs gs bd p c s e':=by
 obtain⟨H,b,d,n⟩:=h;have r:0<H.length:=by rw[b];exact List.length_pos_iff.2 hc
 refine⟨H,b,by rw[dy r]at d⊢;exact d,λF hF=> ?_⟩
 have q:=n (λj=>if j=p+H.length then some e else F j) (λk s' a=>by
  obtain hl|hl:=gC k H.length
  .show(if p+k=p+H.length then some e else F (p+k))=some s'
   rw[if_neg (by omega)];rw[dy hl]at a;exact hF k s' (by rw[dy hl];exact a)
  .have:=(bc a).1;simp at this;have ek:k=H.length:=by omega
   subst ek
   show(if p+H.length=p+H.length then some e else F (p+H.length))=some s'
   rw[if_pos rfl];simpa using a)
 have f: ∀j u,RF cs (λj=>if j=p+H.length then some e else F j) j u->RF cs F j u:=λj u hj=>by
  obtain hj| ⟨s',hj,hu⟩:=hj
  .exact Or.inl hj
  .refine Or.inr ?_;dsimp only at hj
   split at hj
   .rename_i ej
    cases hj
    exact⟨e',by rw[ej];exact hF.right.head,mh hw hu he⟩
   .exact⟨s',hj,hu⟩
 intro k x a;obtain⟨t,s2,l',a1,g,i,l,m⟩:=q k x a;refine⟨t,s2,l',?_,g,i,f _ _ l,f _ _ m⟩;dsimp only at a1
 rwa [if_neg (by have:=(bc a).1;omega)]at a1
theorem TyC.one {x:Ins} {s e l':L_} (h:cC cs gs bd x s bd.zy=some (e,l')) (hl:leL cs l' bd.zy) (hx:x.op.toNat≠116/\x.op.toNat≠106/\x.op.toNat≠102):TyC cs gs bd p [x] s e:=by
 refine⟨[s],rfl,rfl,λF hF=>OkC.cons ⟨s,e,l',hF.head,h,hl,?_,?_⟩ OkC.nil⟩
 .unfold bR;rw[if_neg hx.1,if_neg hx.2.1,if_neg hx.2.2];exact Or.inr ⟨e,by rw[show((p:Int)+1).toNat=p+1 from by omega];exact hF.tail.head,bU _⟩
 .unfold bR;rw[if_neg hx.1,if_neg hx.2.1,if_neg hx.2.2];exact Or.inl (by show(-1:Int)<0;decide)
theorem TyC.same {x:Ins} {s e:L_} (h:cC cs gs bd x s bd.zy=some (e,bd.zy)) (hx:x.op.toNat≠116/\x.op.toNat≠106/\x.op.toNat≠102):TyC cs gs bd p [x] s e:=TyC.one h (bU _) hx
theorem nV {a c:UInt8} (h:cF cs [a] [c]=true):bj cs a c=true:=by
 simpa[cF]using h
theorem nW {a b c d:UInt8} (h:cF cs [a,b] [c,d]=true):bj cs a c=true/\bj cs b d=true:=by
 simpa[cF,List.range_succ]using h
theorem qV {s:L_} {a c:UInt8} (h:bj cs a c=true):cF cs (s++ [a]) [c]=true:=
 oN (by simp) (λk hk=>by
  have:k=0:=by simpa using hk
  subst this;simpa[List.getD]using h)
theorem xI {s:L_} {a b c d:UInt8} (h:bj cs a c=true) (h':bj cs b d=true):cF cs (s++ [a]++ [b]) [c,d]=true:=
 oN (by simp) (λk hk=>by
  have:k=0\/k=1:=by simp at hk;omega
  obtain rfl|rfl:=this
  .simpa[List.getD,List.getElem?_append]using h
  .have e:(s++ [a]++ [b]).length- [c,d].length+1=s.length+1:=by simp
   rw[e];simpa[List.getD,List.getElem?_append]using h')
theorem pF {s:L_}:cF cs s []=true:=by simp[cF]
theorem km {t:List Ins} {g:Nat->Option UInt8} {k:Nat} {ts:L_} (h:bp t g 1 k=some ts): ∃a,g k=some a/\ts=[a]:=by
 unfold bp at h
 split at h
 .cases h
 .rename_i a ha
  exact⟨a,ha,by simpa[bp]using h.symm⟩
theorem gu {t:List Ins} {g:Nat->Option UInt8} {k:Nat} {ts:L_} (h:bp t g 2 k=some ts): ∃a b,g k=some a/\g (aR t k)=some b/\ts=[a,b]:=by
 unfold bp at h
 split at h
 .cases h
 .rename_i a ha
  cases hp:bp t g 1 (aR t k)with
  |none=>rw[hp]at h;cases h
  |some us=>
   obtain⟨b,c,rfl⟩:=km hp;rw[hp]at h;exact⟨a,b,ha,c,by simpa using h.symm⟩
theorem mA {t:List Ins} {g:Nat->Option UInt8} {k:Nat} {ts:L_} (h:bp t g 3 k=some ts): ∃a b c,g k=some a/\g (aR t k)=some b/\g (aR t (aR t k))=some c/\ts=[a,b,c]:=by
 unfold bp at h
 split at h
 .cases h
 .rename_i a ha
  cases hp:bp t g 2 (aR t k)with
  |none=>rw[hp]at h;cases h
  |some us=>
   obtain⟨b,c,d,hc,rfl⟩:=gu hp;rw[hp]at h;exact⟨a,b,c,ha,d,hc,by simpa using h.symm⟩
theorem B3 (s:L_):TyC cs gs bd p [k0X] s (s++ [105]):=TyC.same (by simp[cC,k0X,bE,bz,arith,pF]) (by decide)
theorem B4 (l:L_) (k:Nat):l.set k (l.getD k 0)=l:=by
 obtain h|h:=gC k l.length
 .rw[bH,aG h];simp
 .exact List.set_eq_of_length_le h
end
section
variable {cs:List Cls} {gs:List Sig} {bd:Bod} {t:List Ins} {p:Nat}
theorem Dh {x:Ins} (hlo: ∀c∈bd.zy,c.toNat≠45) (h0:az x.op=0) (hl:aQ x.op=true\/x.op.toNat=114\/x.op.toNat=122\/x.op.toNat=108\/x.op.toNat=110) {ty:UInt8} (h:aV cs gs bd.zy x []=some ty) (s:L_):TyC cs gs bd p [lfX x] s (s++ [ty]):=by
 by_cases hd:aQ x.op=true
 .have f:lfX x=⟨107,0,x.b,0⟩:=by simp[lfX,hd]
  simp only[aQ,dk,dg]at hd
  have e:ty=105:=by
   have ha:arith x.op.toNat=false:=by
    unfold arith;rw[List.contains_eq_mem];simp;omega
   unfold aV a9 aT at h;rw[ha]at h;simp[show x.op.toNat≠119 from by omega,show x.op.toNat≠115 from by omega,show x.op.toNat≠103 from by omega,show x.op.toNat≠112 from by omega,show x.op.toNat≠99 from by omega,show x.op.toNat≠101 from by omega,show x.op.toNat≠120 from by omega,show x.op.toNat≠44 from by omega,show x.op.toNat≠105 from by omega,show x.op.toNat≠111 from by omega,show x.op.toNat≠122 from by omega,show x.op.toNat≠108 from by omega,show x.op.toNat≠110 from by omega]at h;exact h.symm
  rw[f,e];exact TyC.same (by simp[cC,bE,bz,arith,pF]) (by simp)
 .have f:lfX x=⟨x.op,x.a,x.b,0⟩:=by simp[lfX,hd]
  rw[f];have hn:x.op.toNat≠116/\x.op.toNat≠106/\x.op.toNat≠102:=by rcases hl with hl|hl|hl|hl|hl<;>first|exact absurd hl hd|omega
  obtain hl|hl|hl|hl|hl:=hl
  .exact absurd hl hd
  .have e:ty=105:=by simp[aV,a9,aT,arith,hl]at h;simpa[List.getD]using h.symm
   rw[e];exact TyC.same (by simp[cC,bE,bz,arith,pF,hl]) hn
  .have e:ty=122:=by simp[aV,a9,aT,arith,hl]at h;simpa[List.getD]using h.symm
   rw[e];exact TyC.same (by simp[cC,bE,bz,arith,pF,hl]) hn
  .have e:ty=bd.zy.getD x.b 0:=by simp[aV,a9,aT,arith,hl]at h;simpa[List.getD]using h.symm
   rw[e]
   have d:(bd.zy.getD x.b 0).toNat≠45:=by
    rw[bH]
    cases hb:bd.zy[x.b]? with
    |none=>decide
    |some c=>exact hlo c (bn hb)
   exact TyC.same (by simp only[cC,hl];simp[-List.getD_eq_getElem?_getD,d]) hn
  .have e:ty=bQ x.a:=by simp[aV,a9,aT,arith,hl]at h;simpa[List.getD]using h.symm
   rw[e];exact TyC.same (by simp[cC,bE,bz,arith,pF,hl]) hn
theorem Eq {x:Ins} {a:UInt8} (h1:az x.op=1) {ty:UInt8} (h:aV cs gs bd.zy x [a]=some ty) (s:L_):TyC cs gs bd p (dv x) (s++ [a]) (s++ [ty]):=by
 obtain ho|ho|ho|ho:=qU h1
 .have c:dv x=[⟨x.op,x.a,x.b,0⟩]++ [k0X]:=by simp[dv,ho]
  have e:ty=105/\bj cs a (bd.zy.getD x.b 0)=true:=by
   simp only[aV,a9,aT,arith,ho]at h;simp at h;exact⟨h.2.symm,by simpa[bH]using nV h.1⟩
  rw[c,e.1];refine TyC.app (m:=s) (TyC.one (l':=bd.zy.set x.b a) ?_ ?_ ⟨by simp[ho],by simp[ho],by simp[ho]⟩) (B3 s)
  .simp[cC,cY,bz,arith,ho,List.getD]
  .have:=tn x.b (bU (cs:=cs) bd.zy) e.2
   rwa [B4]at this
 .have c:dv x=[⟨x.op,x.a,x.b,0⟩]:=by simp[dv,ho]
  have e:ty=cj cs x.a x.b/\bj cs a (bQ x.a)=true:=by
   simp only[aV,a9,aT,arith,ho]at h;simp at h;exact⟨h.2.symm,nV h.1⟩
  rw[c,e.1];exact TyC.same (by simp[cC,bE,bz,arith,ho,qV e.2]) ⟨by simp[ho],by simp[ho],by simp[ho]⟩
 .have c:dv x=[⟨x.op,x.a,x.b,0⟩]:=by simp[dv,ho]
  have e:ty=bQ x.a/\isR a=true:=by
   simp only[aV,a9,aT,arith,ho]at h;simp at h;exact⟨h.2.symm,h.1⟩
  rw[c,e.1];exact TyC.same (by simp[cC,cY,bz,arith,ho,List.getD,e.2]) ⟨by simp[ho],by simp[ho],by simp[ho]⟩
 .have c:dv x=[⟨x.op,x.a,x.b,0⟩]++ [k0X]:=by simp[dv,ho]
  have e:ty=105/\bj cs a 105=true:=by
   simp only[aV,a9,aT,arith,ho]at h;simp at h;exact⟨h.2.symm,nV h.1⟩
  rw[c,e.1];exact TyC.app (m:=s) (TyC.same (by simp[cC,bE,bz,arith,ho,qV e.2]) ⟨by simp[ho],by simp[ho],by simp[ho]⟩) (B3 s)
theorem E9 (s:L_) (a b:UInt8):(s++ [a]++ [b]).take ((s++ [a]++ [b]).length-2)=s:=by simp
theorem Er {x:Ins} {a b:UInt8} (h2:az x.op=2) (h44:x.op.toNat≠44) (h111:x.op.toNat≠111) {ty:UInt8} (h:aV cs gs bd.zy x [a,b]=some ty) (s:L_):TyC cs gs bd p (dv x) (s++ [a]++ [b]) (s++ [ty]):=by
 obtain ho|ho|ho|ho|ho|ho:=ud h2
 .have f:=ho;simp only[arith,List.contains_iff_mem,List.mem_cons,List.not_mem_nil,or_false]at f;have d:dv x=[⟨x.op,x.a,x.b,0⟩]:=by unfold dv;rw[if_neg (by omega)]
  have e:ty=105/\bj cs a 105=true/\bj cs b 105=true:=by
   unfold aV a9 at h;rw[if_pos ho]at h
   split at h
   .cases h
   rename_i c
   have c:cF cs [a,b] [105,105]=true:=by simpa using c
   simp only[show¬x.op.toNat=101 from by omega,show¬x.op.toNat=120 from by omega,show¬x.op.toNat=44 from by omega,show¬x.op.toNat=105 from by omega,show¬x.op.toNat=111 from by omega,show¬x.op.toNat=122 from by omega,show¬x.op.toNat=108 from by omega,show¬x.op.toNat=110 from by omega,show¬x.op.toNat=103 from by omega,show¬x.op.toNat=99 from by omega,if_false,aT]at h
   cases h
   exact⟨rfl,nW c⟩
  rw[d,e.1];refine TyC.same ?_ ⟨by show x.op.toNat≠116;omega,by show x.op.toNat≠106;omega,by show x.op.toNat≠102;omega⟩;have ep:bE cs gs bd ⟨x.op,x.a,x.b,0⟩=[105,105]:=by unfold bE;rw[if_neg (by show¬(x.op.toNat=119\/x.op.toNat=102);omega),if_pos ho]
  have eq:bz cs gs ⟨x.op,x.a,x.b,0⟩=[105]:=by unfold bz;rw[if_pos (Or.inr (Or.inr (Or.inl ho)))]
  unfold cC;rw[if_neg (by show¬(x.op.toNat=115\/x.op.toNat=100\/x.op.toNat=101\/x.op.toNat=120);omega),if_neg (by show¬x.op.toNat=108;omega),ep,eq,if_pos (xI e.2.1 e.2.2)]
  show some (List.take ((s++ [a]++ [b]).length-2) _++_,_)=_
  rw[E9]
 .have d:dv x=[⟨x.op,x.a,x.b,0⟩]:=by simp[dv,ho]
  have e:ty=105/\isR a=true/\isR b=true:=by
   simp only[aV,a9,aT,arith,ho]at h;simp at h;exact⟨h.2.symm,h.1⟩
  rw[d,e.1];exact TyC.same (by simp[cC,cY,bz,arith,ho,List.getD,List.getElem?_append,e.2.1,e.2.2,show¬(s.length+2<2)from by omega]) ⟨by simp[ho],by simp[ho],by simp[ho]⟩
 .have d:dv x=[⟨x.op,x.a,x.b,0⟩]++ [k0X]:=by simp[dv,ho]
  have e:ty=105/\bj cs a (bQ x.a)=true/\bj cs b (cj cs x.a x.b)=true:=by
   simp only[aV,a9,aT,arith,ho]at h;simp at h;exact⟨h.2.symm,nW h.1⟩
  rw[d,e.1];refine TyC.app (m:=s) (TyC.same ?_ ⟨by simp[ho],by simp[ho],by simp[ho]⟩) (B3 s);have c:=xI (s:=s) e.2.1 e.2.2;simp only[cC,bE,bz,arith,ho];simp[-List.append_assoc,c];simp
 .have d:dv x=[⟨x.op,x.a,x.b,0⟩]:=by simp[dv,ho]
  have e:ty=fq gs x.b/\bj cs a (bQ x.a)=true/\bj cs b (fU gs x.b)=true:=by
   simp only[aV,a9,aT,arith,ho]at h;simp at h;exact⟨h.2.symm,nW h.1⟩
  rw[d,e.1];refine TyC.same ?_ ⟨by simp[ho],by simp[ho],by simp[ho]⟩;have c:=xI (s:=s) e.2.1 e.2.2;simp only[cC,bE,bz,arith,ho];simp[-List.append_assoc,c];simp
 .exact absurd ho h44
 .exact absurd ho h111
end
section
variable {cs:List Cls} {gs:List Sig} {bd:Bod} {t:List Ins}
theorem mC {f i:Nat} {ty:UInt8} {lo:L_} {x:Ins} (h:bX cs gs lo t f i=some ty) (hx:t[i]?=some x): ∃g ts,bp t (bX cs gs lo t g) (az x.op) (i+1)=some ts/\aV cs gs lo x ts=some ty:=by
 cases f with
 |zero=>cases h
 |succ f=>
  unfold bX at h;rw[hx]at h;dsimp only at h
  split at h
  .cases h
  .rename_i ts hp
   exact⟨f,ts,hp,h⟩
theorem Cmp.pos {i p z:Nat} {c:List Ins} (h:Cmp t i p c z):c≠ []:=by
 cases h<;>simp[dv]
theorem Es (hw:WfC cs) (hlo: ∀c∈bd.zy,c.toNat≠45) {i p z:Nat} {c:List Ins} (h:Cmp t i p c z): ∀(f:Nat) (ty:UInt8) (s:L_),bX cs gs bd.zy t f i=some ty->TyC cs gs bd p c s (s++ [ty]):=by
 induction h with
 |leaf hx h0 hl=>
  intro f ty s ht;obtain⟨g,ts,hp,hn⟩:=mC ht hx;rw[h0]at hp
  cases hp
  exact Dh hlo h0 hl hn s
 |one hx h1 hA ih=>
  intro f ty s ht;obtain⟨g,ts,hp,hn⟩:=mC ht hx;rw[h1]at hp;obtain⟨a,ha,rfl⟩:=km hp;exact(ih g a s ha).app (Eq h1 hn s)
 |two hx h2 h44 h111 hA hB ihA ihB=>
  intro f ty s ht;obtain⟨g,ts,hp,hn⟩:=mC ht hx;rw[h2]at hp;obtain⟨a,b,ha,q,rfl⟩:=gu hp;exact(ihA g a s ha).app ((ihB g b (s++ [a]) q).app (Er h2 h44 h111 hn s))
 | @seq i p x A B zA zB hx hc hA hB ihA ihB=>
  intro f ty s ht;obtain⟨g,ts,hp,hn⟩:=mC ht hx;rw[show az x.op=2 from by simp[az,hc]]at hp;obtain⟨a,b,ha,q,rfl⟩:=gu hp
  have e:ty=b:=by
   simp only[aV,a9,arith,hc]at hn;simp at hn;exact hn.symm
  rw[e];have O:TyC cs gs bd (p+A.length) [⟨100,0,0,0⟩] (s++ [a]) s:=TyC.same (by simp[cC,cY,bz,arith]) (by decide);exact(ihA g a s ha).app (O.app (d:=B) (ihB g b s q))
 | @cho i p x A B C zA zB zC hx hc hA hB hC ihA ihB ihC=>
  intro f ty s ht;obtain⟨g,ts,hp,hn⟩:=mC ht hx;rw[show az x.op=3 from by simp[az,hc]]at hp;obtain⟨a,b,c,ha,q,I,rfl⟩:=mA hp
  have e:a.toNat=105/\ty=eG cs b c:=by
   simp only[aV,a9,arith,hc]at hn;simp at hn;exact⟨hn.1.1,hn.2.symm⟩
  obtain⟨ea,rfl⟩:=e;have ea:a=105:=bJ ea;subst ea;have L:=mg hw b c;have l1:leL cs (s++ [b]) (s++ [eG cs b c]):=iC (bU _) ⟨L.1,trivial⟩;have l2:leL cs (s++ [c]) (s++ [eG cs b c]):=iC (bU _) ⟨L.2.1,trivial⟩;obtain⟨j,a1,v,G⟩:=ihA g 105 s ha;obtain⟨n,l,b2,b3⟩:=ihB g b s q;obtain⟨E,c1,c2,c3⟩:=(ihC g c s I).up hw hC.pos l2;refine⟨j++((s++ [105])::(n++((s++ [b])::E))),by simp[a1,l,c1],?_,λF hF=> ?_⟩
  .cases j with
   |nil=>simp at v
   |cons y j=>exact v
  .have H:j++((s++ [105])::(n++((s++ [b])::E)))++ [s++ [eG cs b c]]=j++((s++ [105])::(n++((s++ [b])::(E++ [s++ [eG cs b c]])))):=by simp
   rw[H]at hF;have r:=hF.right;have m:=r.tail;have k:=m.right;have D:=k.tail;rw[a1]at r m k D;rw[l]at k D;have fA:=r.head;have fJ:=k.head
   have fB:F (p+A.length+1)=some s:=by
    have:=m.left.snoc (by rw[l];exact fJ);exact this 0 s b2
   have fC:F (p+A.length+1+B.length+1)=some s:=D 0 s c2
   have fE:F (p+A.length+1+B.length+1+C.length)=some (s++ [eG cs b c]):=by
    have:=D.right.head
    rwa [c1]at this
   refine OkC.app (G F (hF.left.snoc (by rw[a1];exact fA))) (OkC.cons ?_ (OkC.app (b3 F (m.left.snoc (by rw[l];exact fJ))) (OkC.cons ?_ (c3 F D))))
   .refine⟨s++ [105],s,bd.zy,fA,by have J:=qV (cs:=cs) (s:=s) (gW (105:UInt8));simp[cC,bE,bz,arith,J],bU _,Or.inr ⟨s,?_,bU _⟩,Or.inr ⟨s,?_,bU _⟩⟩
    .show F (((p+A.length:Nat):Int)+1).toNat=some s
     rw[show(((p+A.length:Nat):Int)+1).toNat=p+A.length+1 from by omega];exact fB
    .exact fC
   .refine⟨s++ [b],s++ [b],bd.zy,fJ,by simp[cC,bE,bz,arith,pF,fd],bU _,Or.inr ⟨s++ [eG cs b c],fE,l1⟩,Or.inl (by show(-1:Int)<0;decide)⟩
 | @loo i p x A B zA zB hx hc hA hB ihA ihB=>
  intro f ty s ht;obtain⟨g,ts,hp,hn⟩:=mC ht hx;rw[show az x.op=2 from by simp[az,hc]]at hp;obtain⟨a,b,ha,q,rfl⟩:=gu hp
  have e:a.toNat=105/\ty=105:=by
   simp only[aV,a9,arith,hc]at hn;simp at hn;exact⟨hn.1,hn.2.symm⟩
  obtain⟨ea,rfl⟩:=e;have ea:a=105:=bJ ea;subst ea;obtain⟨j,a1,v,G⟩:=ihA g 105 s ha;obtain⟨n,l,b2,b3⟩:=ihB g b s q;refine⟨j++((s++ [105])::(n++ [s++ [b],s,s])),by simp[a1,l],?_,λF hF=> ?_⟩
  .cases j with
   |nil=>simp at v
   |cons y j=>exact v
  .have H:j++((s++ [105])::(n++ [s++ [b],s,s]))++ [s++ [105]]=j++((s++ [105])::(n++ [s++ [b],s,s,s++ [105]])):=by simp
   rw[H]at hF;have r:=hF.right;have m:=r.tail;have k:=m.right;rw[a1]at r m k;rw[l]at k;have fA:=r.head;have fD:=k.head;have fJ:=k.tail.head;have fK:=k.tail.tail.head;have fE:=k.tail.tail.tail.head
   have fB:F (p+A.length+1)=some s:=by
    have:=m.left.snoc (by rw[l];exact fD);exact this 0 s b2
   have M:F p=some s:=by
    have:=hF.left.snoc (by rw[a1];exact fA);exact this 0 s v
   refine OkC.app (G F (hF.left.snoc (by rw[a1];exact fA))) (OkC.cons ?_ (OkC.app (b3 F (m.left.snoc (by rw[l];exact fD))) (OkC.cons ?_ (OkC.cons ?_ (OkC.cons ?_ OkC.nil)))))
   .refine⟨s++ [105],s,bd.zy,fA,by have J:=qV (cs:=cs) (s:=s) (gW (105:UInt8));simp[cC,bE,bz,arith,J],bU _,Or.inr ⟨s,?_,bU _⟩,Or.inr ⟨s,fK,bU _⟩⟩
    show F (((p+A.length:Nat):Int)+1).toNat=some s
    rw[show(((p+A.length:Nat):Int)+1).toNat=p+A.length+1 from by omega];exact fB
   .refine⟨s++ [b],s,bd.zy,fD,by simp[cC,cY,bz,arith],bU _,Or.inr ⟨s,?_,bU _⟩,Or.inl (by show(-1:Int)<0;decide)⟩
    show F (((p+A.length+1+B.length:Nat):Int)+1).toNat=some s
    rw[show(((p+A.length+1+B.length:Nat):Int)+1).toNat=p+A.length+1+B.length+1 from by omega];exact fJ
   .exact⟨s,s,bd.zy,fJ,by simp[cC,bE,bz,arith,pF],bU _,Or.inr ⟨s,M,bU _⟩,Or.inl (by show(-1:Int)<0;decide)⟩
   .refine⟨s,s++ [105],bd.zy,fK,by simp[cC,k0X,bE,bz,arith,pF],bU _,Or.inr ⟨s++ [105],?_,bU _⟩,Or.inl (by show(-1:Int)<0;decide)⟩
    show F (((p+A.length+1+B.length+1+1:Nat):Int)+1).toNat=some (s++ [105])
    rw[show(((p+A.length+1+B.length+1+1:Nat):Int)+1).toNat=p+A.length+1+B.length+1+1+1 from by omega];exact fE
end
theorem sQ {cs:List Cls} {gs:List Sig} {b:Bod} {x y:Ins} (h1:y.op=x.op) (h2:y.a=x.a) (h3:y.b=x.b) (s l:L_):cC cs gs b y s l=cC cs gs b x s l:=by
 unfold cC bE bz;rw[h1,h2,h3]
theorem qW {x y:Ins} (h1:y.op=x.op) (h3:y.b=x.b) (i:Nat):bR y i=bR x i:=by
 unfold bR;rw[h1,h3]
theorem Ad {im':Img} (hw:WfC im'.zq) {b b':Bod} (hl:b'.zy=b.zy) (hc:b'.cls=b.cls) (hm:b'.meth=b.meth) (hlo: ∀c∈b.zy,c.toNat≠45) {c:List Ins} {z:Nat} (hC:Cmp b.code 0 0 c z) (hh:Has b'.code 0 (c++ [⟨116,0,0,0⟩])) (hn:b'.code.length=c.length+1)
  {f:Nat} {ty:UInt8} (ht:bX im'.zq im'.zx b.zy b.code f 0=some ty) (hs:bj im'.zq ty (if b.cls<0 then 105 else fq im'.zx b.meth.toNat)=true): ∃H,tp im' b' H:=by
 obtain⟨H,t,B,C⟩:=Es (bd:=b') hw (by rw[hl];exact hlo) hC f ty [] (by rw[hl];exact ht);have m:=C (λj=>(H++ [[ty]])[j]?) (λk s hk=>by rw[Nat.zero_add];exact hk);have n: ∀j:Nat,((H++ [[ty]]).map (λs=>(some (s,b'.zy):St)))[j]?=(H++ [[ty]])[j]?.map (λs=>some (s,b'.zy)):=λj=>by rw[cV]
 refine⟨(H++ [[ty]]).map (λs=>some (s,b'.zy)),⟨by simp[t,hn],⟨([],b'.zy),by rw[n];exact(congrArg (Option.map _) B),bU _,bU _⟩,λi x s l hx hs'=> ?_⟩⟩
 have g: ∀(j:Int) (u l':L_),leL im'.zq l' b'.zy->RF im'.zq (λj=>(H++ [[ty]])[j]?) j u->mM im'.zq ((H++ [[ty]]).map (λs=>some (s,b'.zy))) j (u,l'):=λj u l' hl' hj=>by
  obtain hj| ⟨s',hj,hu⟩:=hj
  .exact Or.inl hj
  .dsimp only at hj;exact Or.inr ⟨(s',b'.zy),by rw[n,hj];rfl,hu,hl'⟩
 have hi:i<c.length+1:=by rw[<-hn];exact(bc hx).1
 rw[n]at hs';obtain hlt|hge:=gC i c.length
 .obtain⟨y,a,d,h,e⟩:=hh i c[i] (by rw[dy hlt,aG hlt]);rw[Nat.zero_add,hx]at a
  cases a
  obtain⟨D,s2,l',a1,A,p,q,r⟩:=m i c[i] (aG hlt);rw[Nat.zero_add]at a1 q r;dsimp only at a1;rw[a1]at hs';simp only[Option.map_some,Option.some.injEq,Prod.mk.injEq]at hs';obtain⟨rfl,rfl⟩:=hs';rw[sQ d h e,qW d e];exact⟨s2,l',A,g _ _ _ p q,g _ _ _ p r⟩
 .have ei:i=c.length:=by omega
  subst ei;obtain⟨y,a,d,h,e⟩:=hh c.length ⟨116,0,0,0⟩ (by rw[f8 (bP _)];simp);rw[Nat.zero_add,hx]at a
  cases a
  rw[f8 (by omega),t,Nat.sub_self]at hs';simp only[List.getElem?_cons_zero,Option.map_some,Option.some.injEq,Prod.mk.injEq]at hs';obtain⟨rfl,rfl⟩:=hs';rw[sQ d h e,qW d e]
  have hp:bE im'.zq im'.zx b' ⟨116,0,0,0⟩=[if b.cls<0 then 105 else fq im'.zx b.meth.toNat]:=by
   simp only[bE,arith,hc,hm]
   by_cases h0:b.cls<0<;>simp[h0]
  have v:=qV (s:=[]) hs;refine⟨[],b'.zy,?_,Or.inl (by show(-1:Int)<0;decide),Or.inl (by show(-1:Int)<0;decide)⟩;unfold cC;rw[hp];simp only[List.nil_append]at v;simp[v,bz,arith]
theorem ol: ∀{u:List Ins} {m k:Nat},full (m+k) u-> ∃a b,u=a++b/\full m a/\full k b
 |u,0,k,h=>⟨[],u,rfl,trivial,by rwa [Nat.zero_add]at h⟩
 | [],m+1,k,h=>by rw[show m+1+k=(m+k)+1 from by omega]at h;cases h
 |x::u,m+1,k,h=>by
  rw[show m+1+k=(m+k)+1 from by omega]at h;have h':full (m+az x.op+k) u:=by rw[show m+az x.op+k=m+k+az x.op from by omega];exact h
  obtain⟨a,b,c,d,e⟩:=ol h';exact⟨x::a,b,by rw[c];rfl,d,e⟩
theorem Ae {u:List Ins} (h:full 0 u):u=[]:=by
 cases u with
 |nil=>rfl
 |cons x u=>cases h
theorem D6 {cs:List Cls} {ns nl:Nat} {x:Ins} (h:WfN cs ns nl x) (h0:az x.op=0):aQ x.op=true\/x.op.toNat=114\/x.op.toNat=122\/x.op.toNat=108\/x.op.toNat=110:=by
 have d:=h.op;simp only[cr,List.contains_iff_mem,List.mem_cons,List.not_mem_nil,or_false]at d;unfold az at h0
 split at h0
 .cases h0
 split at h0
 .cases h0
 split at h0
 .cases h0
 rename_i a b c
 simp only[List.contains_iff_mem,List.mem_cons,List.not_mem_nil,or_false]at b c;simp only[aQ,dk,dg];omega
theorem B5 (c:UInt8):az c=0\/az c=1\/az c=2\/(az c=3/\c.toNat=105):=by
 unfold az
 split
 .rename_i h;exact Or.inr (Or.inr (Or.inr ⟨rfl,h⟩))
 split
 .exact Or.inr (Or.inr (Or.inl rfl))
 split
 .exact Or.inr (Or.inl rfl)
 .exact Or.inl rfl
theorem Et {t:List Ins} (hl: ∀x∈t,az x.op=0->aQ x.op=true\/x.op.toNat=114\/x.op.toNat=122\/x.op.toNat=108\/x.op.toNat=110): ∀(N:Nat) (u:List Ins),u.length<=N->full 1 u-> ∀(i p:Nat) (v:List Ins),t.drop i=u++v-> ∃c,Cmp t i p c u.length:=by
 intro N
 induction N with
 |zero=>
  intro u n b
  cases u with
  |nil=>cases b
  |cons x u=>simp at n
 |succ N ih=>
  intro u n b i p v E
  cases u with
  |nil=>cases b
  |cons x u=>
   have q:t[i]?=some x:=by
    have:(t.drop i)[0]?=some x:=by rw[E];rfl
    rwa [List.getElem?_drop,Nat.add_zero]at this
   have a:t.drop (i+1)=u++v:=by
    rw[<-List.drop_drop,E];rfl
   have b:full (az x.op) u:=by
    have:full (0+az x.op) u:=b
    rwa [Nat.zero_add]at this
   have n:u.length<=N:=by simpa using n
   have f: ∀{j:Nat} {d v1:List Ins},t.drop j=d++v1->full 1 d->aR t j=j+d.length/\t.drop (aR t j)=v1:=λ{j d v1} h1 h2=>by
    have e:aR t j=j+d.length:=by unfold aR;rw[h1,mf h2]
    exact⟨e,by rw[e,<-List.drop_drop,h1];simp⟩
   obtain ha|ha|ha| ⟨ha,h105⟩:=B5 x.op
   .rw[ha]at b;rw[Ae b];exact⟨_,Cmp.leaf q ha (hl x (bn q) ha)⟩
   .rw[ha]at b;obtain⟨A,h⟩:=ih u n b (i+1) p v a;exact⟨_,Cmp.one q ha h⟩
   .rw[ha]at b;obtain⟨d,g,rfl,y,r⟩:=ol (m:=1) (k:=1) b;rw[aN]at n;rw[ky]at a;have s:=f a y;obtain⟨A,h⟩:=ih d (by omega) y (i+1) p _ a;have el:(x::(d++g)).length=d.length+g.length+1:=by simp
    rw[el]
    by_cases h44:x.op.toNat=44
    .obtain⟨B,l⟩:=ih g (by omega) r (aR t (i+1)) (p+A.length+1) v s.2;exact⟨_,Cmp.seq q h44 h l⟩
    by_cases h111:x.op.toNat=111
    .obtain⟨B,l⟩:=ih g (by omega) r (aR t (i+1)) (p+A.length+1) v s.2;exact⟨_,Cmp.loo q h111 h l⟩
    .obtain⟨B,l⟩:=ih g (by omega) r (aR t (i+1)) (p+A.length) v s.2;exact⟨_,Cmp.two q ha h44 h111 h l⟩
   .rw[ha]at b;obtain⟨d,u',rfl,y,g'⟩:=ol (m:=1) (k:=2) b;obtain⟨g,D,rfl,r,F⟩:=ol (m:=1) (k:=1) g';rw[aN,aN]at n;rw[ky,ky]at a;have s:=f a y;have z:=f s.2 r;obtain⟨A,h⟩:=ih d (by omega) y (i+1) p _ a;obtain⟨B,l⟩:=ih g (by omega) r (aR t (i+1)) (p+A.length+1) _ s.2;obtain⟨C,G⟩:=ih D (by omega) F (aR t (aR t (i+1))) (p+A.length+1+B.length+1) _ z.2;have el:(x::(d++(g++D))).length=d.length+g.length+D.length+1:=by simp;omega
    rw[el];exact⟨_,Cmp.cho q h105 h l G⟩
def InC (t:List Ins) (p n:Nat) (x:Ins):Prop:=x=k0X\/x=⟨100,0,0,0⟩\/(∃y∈t,x=lfX y/\az y.op=0)\/(∃y∈t,x=⟨y.op,y.a,y.b,0⟩/\(az y.op=1\/az y.op=2/\y.op.toNat≠44/\y.op.toNat≠111))\/((x.op=102\/x.op=106)/\x.a=0/\x.b<=p+n)
theorem InC.up {t:List Ins} {p p' n n':Nat} {x:Ins} (h:InC t p n x) (hp:p+n<=p'+n'):InC t p' n' x:=by
 obtain h|h|h|h| ⟨h1,h2,h3⟩:=h
 .exact Or.inl h
 .exact Or.inr (Or.inl h)
 .exact Or.inr (Or.inr (Or.inl h))
 .exact Or.inr (Or.inr (Or.inr (Or.inl h)))
 .exact Or.inr (Or.inr (Or.inr (Or.inr ⟨h1,h2,by omega⟩)))
theorem B6 {t:List Ins} {p n:Nat} {y:Ins} (hy:y∈t) (ha:az y.op=1\/az y.op=2/\y.op.toNat≠44/\y.op.toNat≠111): ∀x∈dv y,InC t p n x:=by
 intro x a;unfold dv at a;rw[List.mem_cons]at a;obtain rfl|a:=a
 .exact Or.inr (Or.inr (Or.inr (Or.inl ⟨y,hy,rfl,ha⟩)))
 .split at a
  .rw[List.mem_singleton]at a;exact Or.inl a
  .cases a
theorem yw (y:Ins):(dv y).length<=2:=by unfold dv;split<;>simp
theorem Cmp.all {t:List Ins} {i p z:Nat} {c:List Ins} (h:Cmp t i p c z):c.length<=4*z/\ ∀x∈c,InC t p c.length x:=by
 induction h with
 |leaf hx h0 hl=>exact⟨by simp,λx h=>by rw[List.mem_singleton]at h;exact Or.inr (Or.inr (Or.inl ⟨_,bn hx,h,h0⟩))⟩
 | @one i p x A z hx h1 hA ih=>
  have:=yw x;refine⟨by rw[aN];omega,λy hy=> ?_⟩;obtain hy|hy:=gz hy
  .exact(ih.2 y hy).up (by rw[aN];omega)
  .exact B6 (bn hx) (Or.inl h1) y hy
 | @two i p x A B z y hx h2 h44 h111 hA hB ihA ihB=>
  have:=yw x;refine⟨by rw[aN,aN];omega,λy hy=> ?_⟩;rw[aN,aN];obtain hy|hy:=gz hy
  .exact(ihA.2 y hy).up (by omega)
  obtain hy|hy:=gz hy
  .exact(ihB.2 y hy).up (by omega)
  .exact B6 (bn hx) (Or.inr ⟨h2,h44,h111⟩) y hy
 |seq hx hc hA hB ihA ihB=>
  refine⟨by rw[aN,iU];omega,λy hy=> ?_⟩;rw[aN,iU];obtain hy|hy:=gz hy
  .exact(ihA.2 y hy).up (by omega)
  obtain hy|hy:=List.mem_cons.1 hy
  .exact Or.inr (Or.inl hy)
  .exact(ihB.2 y hy).up (by omega)
 |cho hx hc hA hB hC ihA ihB ihC=>
  refine⟨by rw[aN,iU,aN,iU];omega,λy hy=> ?_⟩;rw[aN,iU,aN,iU];obtain hy|hy:=gz hy
  .exact(ihA.2 y hy).up (by omega)
  obtain hy|hy:=List.mem_cons.1 hy
  .subst hy;exact Or.inr (Or.inr (Or.inr (Or.inr ⟨Or.inl rfl,rfl,by show _+_+1+_+1<=_;omega⟩)))
  obtain hy|hy:=gz hy
  .exact(ihB.2 y hy).up (by omega)
  obtain hy|hy:=List.mem_cons.1 hy
  .subst hy;exact Or.inr (Or.inr (Or.inr (Or.inr ⟨Or.inr rfl,rfl,by show _+_+1+_+1+_<=_;omega⟩)))
  .exact(ihC.2 y hy).up (by omega)
 |loo hx hc hA hB ihA ihB=>
  refine⟨by rw[aN,iU,aN];simp;omega,λy hy=> ?_⟩;rw[aN,iU,aN];obtain hy|hy:=gz hy
  .exact(ihA.2 y hy).up (by omega)
  obtain hy|hy:=List.mem_cons.1 hy
  .subst hy;exact Or.inr (Or.inr (Or.inr (Or.inr ⟨Or.inl rfl,rfl,by show _+_+1+_+2<=_;simp;omega⟩)))
  obtain hy|hy:=gz hy
  .exact(ihB.2 y hy).up (by omega)
  simp only[List.mem_cons,List.not_mem_nil,or_false]at hy;obtain rfl|rfl|rfl:=hy
  .exact Or.inr (Or.inl rfl)
  .exact Or.inr (Or.inr (Or.inr (Or.inr ⟨Or.inr rfl,rfl,by dsimp only;omega⟩)))
  .exact Or.inl rfl
end
end Go.Proofs.YtpfkkmacakjmbaaGreatDoor
