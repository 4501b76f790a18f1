import Derived.Test.YtpfkkmacakjmbaaGreatDoorP31
set_option maxRecDepth 100000
set_option maxHeartbeats 6400000
set_option linter.all false
namespace Go.Proofs.YtpfkkmacakjmbaaGreatDoor
open Proofs.Tryz
section
open Go Go.RowKit Sp
theorem CA (n:Nat) (s:List V):(tkR n s).length<=s.length:=by
 unfold tkR bB dC
 split
 .omega
 .split<;>(rw[List.length_take];omega)
section
variable {w0 w w':World} {im:Img} {T:de} {mb tx:Nat} {tv:Value} {bw cells:Nat} {ans:Int} {inp:ByteArray} {r:Fr} {rs:List Fr} {f:Fm} {fs:List Fm} {s:Ev} {vo vb:Value} {gs:List Nat} {fv:List Value} {cn:Int} {sn:Nat->Int}
theorem xG (psh:Bool) (h:McQ w0 w im T mb tx tv bw cells ans inp (r::rs) (f::fs) s vo vb gs fv cn sn) (hT:eS w0 tx im) (hcl:(im.zz.map toX).length<=100) (hsg:im.zj.length<=100) (h4:f.zx.length<=4000) (hpc:f.pc<=1000) (h100:(bu im.zj r.b).items.length<=100) (x:XIt) (hx:(bu im.zj r.b).items[f.pc]?=some x) (nT:Nat) (hnT:(aE (im.zz.map toX) im.zj x.op x.cls x.num (bu im.zj r.b).ans).length=nT) (h2:nT<=2) (hl:nT<=f.zx.length) (hno:x.op.toNat≠99/\x.op.toNat≠116/\x.op.toNat≠106/\x.op.toNat≠102/\x.op.toNat≠108/\x.op.toNat≠115/\x.op.toNat≠110) (hly:match psh with|true=>(aM (im.zz.map toX) im.zj x.op x.cls x.num (bu im.zj r.b).locals).toNat≠0|false=>(aM (im.zz.map toX) im.zj x.op x.cls x.num (bu im.zj r.b).locals).toNat=0) (rr:R)
  (hD: ∀(P':Nat->Prop) X,WdQ P' w0 X bw tx inp s vo vb gs fv cn sn->Calls prog 197 #[.pointer (some ⟨bw,0,none⟩),dF x,bW (tkA nT f.zx),bW (tkB nT f.zx)] X (ReW P' w0 X bw tx inp cn rr)):
  Calls prog 88 #[.pointer (some ⟨mb,0,none⟩)] w (λen w'=> ∃e,en= .returned (.int .i64 e)/\Br w0 im T mb tx tv bw cells ans inp rs {f with zx:=tkR nT f.zx} fs cn rr psh (.returned (.int .i64 e)) w'):=by
 subst hnT;obtain⟨n1,n2,n3,n4,n5,n6,n7⟩:=hno;refine xE (λe w'=>Br w0 im T mb tx tv bw cells ans inp rs {f with zx:=tkR _ f.zx} fs cn rr psh (.returned (.int .i64 e)) w') h hT hcl hsg h4 h100 x hx h2 hl (λY sv' hM=> .inl ⟨⟨n1,n2,n3,n4⟩,?_⟩);refine(DJ psh hM hT hcl hsg (Nat.le_trans (CA _ _) h4) hpc x _ _ n5 n6 n7 hly rr (λX hX=>hD _ _ (hM.wd.grown hX))).mono ?_;intro en w5 hp;have hp':=hp;obtain⟨u,e,s',vo',vb',gs',fv',sn',r',h1,h2,h3⟩:=hp;subst h2;exact⟨e,rfl,hp'⟩
end
end
section
open Go Go.RowKit Sp
attribute [local go_sem ↓] dG dH
def xH (w0:World) (im:Img) (T:de) (mb tx:Nat) (tv:Value) (bw cells:Nat) (ans:Int) (inp:ByteArray) (cn:Int) (sr:SR) (e:Int) (w':World):Prop:=match sr with
 | .go m=>e=0/\ ∃rs vo vb gs fv cn' sn,cn'<=cn+1/\McQ w0 w' im T mb tx tv bw cells ans inp rs m.fr m.ev vo vb gs fv cn' sn
 | .bad n o=>e=cD n/\ ∃rs fs s' vo vb gs fv cn' sn,s'.out=o/\McQ w0 w' im T mb tx tv bw cells ans inp rs fs s' vo vb gs fv cn' sn
 | .fin v o=>e=0/\ ∃s' vo vb gs fv cn' sn,s'.out=o/\McQ w0 w' im T mb tx tv bw cells (xN v) inp [] [] s' vo vb gs fv cn' sn
section
variable {w0 w w':World} {im:Img} {T:de} {mb tx:Nat} {tv:Value} {bw cells:Nat} {ans:Int} {inp:ByteArray} {r:Fr} {rs:List Fr} {f:Fm} {fs:List Fm} {s:Ev} {vo vb:Value} {gs:List Nat} {fv:List Value} {cn:Int} {sn:Nat->Int} {b:Bod} {x:Ins} {st l:L_}
theorem u7 {x:Ins} {n:Nat} (h:x.op.toNat=n):dF (bP x)= .agg #[.int .i64 x.pos,.int .u8 n,.int .u8 (bP x).cls.toNat,.int .i64 x.b,S_]:=by
 subst h
 rfl
end
end
section
open Go Go.RowKit Sp
theorem zB {w0 w2 w':World} {im:Img} {T:de} {mb tx bw cells q fb bl:Nat} {tv lv vl vi:Value} {ans:Int} {inp:ByteArray} {b:Bod} {p:Nat×List St} (hB:B_ w0 w2) (hw:XwC w2 bw tx inp 0 S_ S_ 0) (hbw:w0.heap.size<=bw) (hmb:w0.heap.size<=mb) (hm2:mb<w2.heap.size) (hne:bw≠mb)
  (g:C4 w0 w2 w' mb tx tv bw cells none ans 1 im.zj b p fb bl lv vl vi) (hq:im.zq[q]?=some b) (hTq:T[q]?=some p.2):
  McQ w0 w' im T mb tx tv bw cells ans inp [⟨fb,bl,p.1,vl,vi,lv,S_,b,p.2⟩] [⟨q,0,[],bn b []⟩] ⟨[],0,0,[]⟩ S_ S_ [] [] 0 (λ_=>0):=by
 have h0:=hB.size;have a0:B_ w0 w':=hB.next g.but (λk hk e=>by have e:k=mb:=e;omega);have a3: ∀k,lv.ownBlock=some k->w2.heap.size<=k:=λk hk=>ay g.lo k hk
 have a1:w'.ownsRow w0.heap.size 168 2 lv (bn b []).length (aJ (bn b [])):=by
  have e:bn b []=b.locals.map dc:=by simp[bn]
  rw[e,cP];exact dn g.lo h0
 have a2:bw<w2.heap.size:=ae hw;have hF:FrM w0 w' im T none 1 ⟨fb,bl,p.1,vl,vi,lv,S_,b,p.2⟩ ⟨q,0,[],bn b []⟩:=⟨hq,hTq,g.fr,g.lb,a1,Bq _ _,g.bt,g.it,g.tb,λk _ e=>(by cases e),Nat.le_trans h0 g.gf,Nat.le_trans h0 g.gl⟩;refine⟨⟨a0,?_,⟨rfl,Or.inl ⟨rfl,rfl⟩⟩,⟨rfl,Or.inl ⟨rfl,rfl⟩⟩,rfl,rfl,λk o g' v a=>(by simp at a),λj k g' a=>(by simp at a),λk hk=> ?_,λk hk=> ?_,λj k v v' g' a=>(by simp at a),by omega,λk=>(by omega)⟩,g.mc,⟨hF,trivial,λk _ q' hq'=>(by cases hq')⟩,hmb⟩
 .have:((min 0 inp.size:Nat):Int)=0:=by simp
  show XwC w' bw tx inp ((min 0 inp.size:Nat):Int) _ _ _
  rw[this];exact hw.but g.but (λe=>hne e)
 .obtain e0|hk|hk|hk| ⟨v,hv,_⟩:=hk
  .rw[e0];refine⟨hbw,λho=> ?_⟩;obtain e| ⟨r,hr,ho⟩:=ho
   .exact hne e
   .simp only[List.mem_singleton]at hr;subst hr;obtain e|e|e|e:=ho
    .have:=g.gf;have e:bw=fb:=e;omega
    .have:=g.gl;have e:bw=bl:=e;omega
    .have:=a3 bw e;omega
    .cases e
  .cases hk
  .cases hk
  .cases hk
  .cases hv
 .obtain rfl| ⟨r,hr,ho⟩:=hk
  .exact⟨g.mc.lt,λc fz e=>cE g.mc e (by decide) rfl⟩
  .simp only[List.mem_singleton]at hr;subst hr;exact⟨hF.lt ho,λc fz e=>hF.nb ho c fz e⟩
end
section
open Go Go.RowKit Sp
attribute [local go_sem ↓] dG dH
def Bt (J:Fm->List Fm->Ev->Nat->Prop) (w0:World) (im:Img) (T:de) (mb tx:Nat) (tv:Value) (bw cells:Nat) (inp:ByteArray):Prop:=
 ∀(w:World) (r:Fr) (rs:List Fr) (f:Fm) (fs:List Fm) (s:Ev) (vo vb:Value) (gs:List Nat) (fv:List Value) (cn:Int) (sn:Nat->Int) (ans:Int) (n:Nat),McQ w0 w im T mb tx tv bw cells ans inp (r::rs) (f::fs) s vo vb gs fv cn sn->J f fs s (n+1)->cn<=100000->
  Calls prog 88 #[.pointer (some ⟨mb,0,none⟩)] w (λen w'=> ∃e,en= .returned (.int .i64 e)/\xH w0 im T mb tx tv bw cells ans inp cn (jh im inp T cells ⟨f::fs,s⟩) e w')/\
  match jh im inp T cells ⟨f::fs,s⟩with
  | .go m=> ∃f' r',m.fr=f'::r'/\J f' r' m.ev n
  | .bad e o=>6<=e/\e<=10/\o=s.out
  | .fin v o=>(∃k,v= .i k/\ -2147483648<=k/\k<2147483648)/\o=s.out
def DM (J:Fm->List Fm->Ev->Nat->Prop) (w0:World) (im:Img) (T:de) (mb tx:Nat) (tv:Value) (bw cells:Nat) (inp:ByteArray) (RV:L_×Int×Nat) (n k:Nat) (e:Int) (w:World):Prop:=
 (e=0/\ ∃r rs f fs s vo vb gs fv,∃cn:Int,∃sn ans,cn<=k/\McQ w0 w im T mb tx tv bw cells ans inp (r::rs) (f::fs) s vo vb gs fv cn sn/\J f fs s n/\tw im inp T cells n ⟨f::fs,s⟩=RV)\/
 (∃m rs fs s vo vb gs fv cn sn ans,6<=m/\m<=10/\e=cD m/\McQ w0 w im T mb tx tv bw cells ans inp rs fs s vo vb gs fv cn sn/\RV=(s.out,0,m))\/
 (e=0/\ ∃v s vo vb gs fv cn sn,McQ w0 w im T mb tx tv bw cells v inp [] [] s vo vb gs fv cn sn/\ -2147483648<=v/\v<2147483648/\RV=(s.out,v,0))
section
variable {J:Fm->List Fm->Ev->Nat->Prop} {w0 w:World} {im:Img} {T:de} {mb tx:Nat} {tv:Value} {bw cells:Nat} {inp:ByteArray} {RV:L_×Int×Nat}
theorem Bu {r:Fr} {rs:List Fr} {f:Fm} {fs:List Fm} {s:Ev} {vo vb:Value} {gs:List Nat} {fv:List Value} {cn:Int} {sn:Nat->Int} {ans:Int} {n k:Nat} (hS:Bt J w0 im T mb tx tv bw cells inp)
  (hk:k<=90000) (hcn:cn<=k) (hM:McQ w0 w im T mb tx tv bw cells ans inp (r::rs) (f::fs) s vo vb gs fv cn sn) (hm:J f fs s (n+1)) (hR:tw im inp T cells (n+1) ⟨f::fs,s⟩=RV):
  Calls prog 88 #[.pointer (some ⟨mb,0,none⟩)] w (λen w'=> ∃e,en= .returned (.int .i64 e)/\DM J w0 im T mb tx tv bw cells inp RV n (k+1) e w'):=by
 obtain⟨hC,hO⟩:=hS _ _ _ _ _ _ _ _ _ _ _ _ _ _ hM hm (by omega);refine hC.mono ?_;rintro en w1 ⟨e,rfl,hQ⟩;refine⟨e,rfl,?_⟩;unfold tw at hR
 cases hsr:jh im inp T cells ⟨f::fs,s⟩with
 |go m=>
  rw[hsr]at hQ hO hR;obtain⟨rfl,rs',vo',vb',gs',fv',cn',sn',hc,a0⟩:=hQ;obtain⟨f',r',he,a1⟩:=hO;have em:m=⟨f'::r',m.ev⟩:=by cases m;simp only at he;subst he;rfl
  rw[he]at a0
  match rs',a0 with
  | [],a0=>exact a0.fr.elim
  |q::rs',a0=>exact Or.inl ⟨rfl,q,rs',f',r',m.ev,vo',vb',gs',fv',cn',sn',ans,by omega,a0,a1,by rw[<-em];exact hR⟩
 |bad m o=>
  rw[hsr]at hQ hO hR;obtain⟨rfl,rs',fs',s',vo',vb',gs',fv',cn',sn',ho,a0⟩:=hQ;exact Or.inr (Or.inl ⟨m,rs',fs',s',vo',vb',gs',fv',cn',sn',ans,hO.1,hO.2.1,rfl,a0,by rw[ho];exact hR.symm⟩)
 |fin v o=>
  rw[hsr]at hQ hO hR;obtain⟨rfl,s',vo',vb',gs',fv',cn',sn',ho,a0⟩:=hQ;obtain⟨⟨j,rfl,j1,j2⟩,_⟩:=hO;exact Or.inr (Or.inr ⟨rfl,j,s',vo',vb',gs',fv',cn',sn',a0,j1,j2,by rw[ho];exact hR.symm⟩)
end
theorem zC {J:Fm->List Fm->Ev->Nat->Prop} {w:World} {im:Img} {T:de} {tx:Nat} {tv:Value} {cells fuel base:Nat} {inp:ByteArray} {L:List (Nat×List St)} (hT:eS w tx im) (hwf:WfI im) (hTl:T.length=im.zq.length) {bs:List Bod} {m:Bod} (hbs:im.zq=bs++ [m]) (hJ:J ⟨bs.length,0,[],bn m []⟩ [] ⟨[],0,0,[]⟩ fuel) (hXT:iu w base tv L) (hLT:L.map (·.2)=T) {nb:Nat} (hnb:nb=im.zq.length) {w2:World} (hw2:w2=(w.alloc (.cells #[.pointer (some ⟨tx,0,none⟩),.string inp,.int .i64 0,S_,S_,.int .i64 0] 211)).alloc (.cells #[.pointer (some ⟨tx,0,none⟩),tv,.pointer (some ⟨w.heap.size,0,none⟩),.int .i64 cells,.pointer none,.int .i32 0] 157)):
  Calls prog 87 #[.pointer (some ⟨w.heap.size+1,0,none⟩),.int .i64 ((nb:Int)-1)] w2 (λen w'=>en= .returned (.tuple #[])/\DM J w im T (w.heap.size+1) tx tv w.heap.size cells inp (vE im inp T cells fuel) fuel 0 0 w'):=by
 have a0:im.zq.length=bs.length+1:=by rw[hbs];simp
 have hq:im.zq[bs.length]?=some m:=by rw[hbs];simp
 have a3:L.length=im.zq.length:=by rw[<-hTl,<-hLT,cP]
 obtain⟨p,hp⟩: ∃p,L[bs.length]?=some p:=⟨_,aH (by omega)⟩;have a1:T[bs.length]?=some p.2:=by rw[<-hLT,cg,hp];rfl
 have hB:B_ w w2:=by rw[hw2];exact(ag _ _ _).trans (ag _ _ _)
 have hW:XwC w2 w.heap.size tx inp 0 S_ S_ 0:=by
  rw[hw2];exact((ag (λ_=>False) _ _).block _ (by simp) nF).trans (aO w _)
 have hM:MbB w2 (w.heap.size+1) tx tv w.heap.size cells none 0:=by
  rw[hw2];exact aB (by simp) _
 have e:((nb:Int)-1)=((bs.length:Nat):Int):=by omega
 rw[e];have a2:=hwf.bod m (bp hq);refine(zw w w2 (w.heap.size+1) tx w.heap.size cells 0 base tv 0 im L bs.length m p none (Or.inl ⟨rfl,rfl⟩) (by omega) hM hB hT hXT hq hp ?_ (by have:=hwf.nb;omega)).mono ?_
 .exact a2.loc.1
 .rintro en w' ⟨rfl,fb,bl,lv,vl,vi,g⟩;refine⟨rfl,Or.inl ⟨rfl,_,_,_,_,_,_,_,_,_,0,_,_,by omega,zB hB hW (b8 _) (by omega) hM.lt (by omega) g hq a1,hJ,?_⟩⟩;unfold vE;rw[a0];simp[hq]
def Fe (J:Fm->List Fm->Ev->Nat->Prop) (w0:World) (im:Img) (T:de) (mb tx:Nat) (tv:Value) (bw cells:Nat) (inp:ByteArray) (RV:L_×Int×Nat) (fuel mm:Nat) (vf vs:Value) (w:World):Prop:=
 ∃(k:Nat) (e:Int),vf= .int .i64 e/\vs= .int .i64 k/\k+mm=fuel/\DM J w0 im T mb tx tv bw cells inp RV mm k e w
theorem zD {m:Nat} (h:6<=m) (h':m<=10):cD m≠0/\2<=cD m/\cD m<=6:=by
 have:m=6\/m=7\/m=8\/m=9\/m=10:=by omega
 obtain rfl|rfl|rfl|rfl|rfl:=this<;>decide
section
variable {J:Fm->List Fm->Ev->Nat->Prop} {w:World} {im:Img} {T:de} {tx base:Nat} {tv:Value} {cells fuel:Nat} {inp:ByteArray} {L:List (Nat×List St)}
theorem CB (hT:eS w tx im) (hwf:WfI im) (hTl:T.length=im.zq.length) {bs:List Bod} {m:Bod} (hbs:im.zq=bs++ [m]) (hJ:J ⟨bs.length,0,[],bn m []⟩ [] ⟨[],0,0,[]⟩ fuel) (hSt: ∀mb bw,Bt J w im T mb tx tv bw cells inp) (hXT:iu w base tv L) (hLT:L.map (·.2)=T) (hfu:fuel<=4000):
  Calls prog 58 #[.pointer (some ⟨tx,0,none⟩),tv,.string inp,.int .i64 cells,.int .i64 fuel] w (λen w'=>en= .returned (.tuple #[.string ⟨(vE im inp T cells fuel).1.toArray⟩,.int .i64 (vE im inp T cells fuel).2.1,.int .i64 (cD (vE im inp T cells fuel).2.2)])/\B_ w w'):=by
 obtain⟨ax,capx,rfl⟩:=aw hXT.1;have HB:=hid (λ(nb:Nat) (a3:nb=im.zq.length) w2 hw2=>zC (inp:=inp) (cells:=cells) (w2:=w2) hT hwf hTl hbs hJ hXT hLT a3 hw2);have HS:=hid (λw' mb bw RV r rs f fs s vo vb gs fv cn sn ans n k=> @Bu J w w' im T mb tx (.slice ax L.length capx) bw cells inp RV r rs f fs s vo vb gs fv cn sn ans n k (hSt mb bw));obtain⟨v2,t2,b9,lb,hO,hm,hf⟩:=hT.bod;have a0:lb.length=im.zq.length:=by have:=congrArg List.length hm;simpa using this
 have a1:=hid a0;clear a0;have a4:lb.length<=7:=by rw[a1.out];exact hwf.nb
 obtain⟨ao,capo,rfl⟩:=aw hO;have a6:=hid (λY=>zm tx inp Y);generalize a7:vE im inp T cells fuel=RV at*;have c7:=hid a7;clear a7 hO hm hf hT hwf hTl hbs hJ hSt hXT hLT;generalize L.length=nL at*;generalize a3:lb.length=nb at*;clear a3
 go_in
 go_wp2_with fail;refine(a6.out _).mono ?_;rintro en w1 ⟨rfl,rfl⟩;go_wp2_with fail;refine(HB.out nb a1.out _ rfl).mono ?_;rintro en w3 ⟨rfl,hJ⟩;have HJ:=hid hJ;clear hJ HB a6 t2 a1 a4 b9;generalize b4:w.heap.size=bw at*;generalize bw+1=mb at*;clear b4;go_wp2_with fail
 go_loopg [14,15] fuel (λmm vf vs wr=>Fe J w im T mb tx (.slice ax nL capx) bw cells inp RV fuel mm vf vs wr)
 case atStart=>exact⟨0,0,rfl,rfl,by omega,HJ.out⟩
 case round=>
  clear HJ;obtain⟨k,e,rfl,rfl,hk,hJ⟩:=hrel;obtain⟨rfl,r,rs,f,fs,s,vo,vb,gs,fv,cn,sn,ans,b5,hM,hm,hR⟩ | ⟨m,rs,fs,s,vo,vb,gs,fv,cn,sn,ans,h6,b3,rfl,hM,hR⟩ | ⟨rfl,v,s,vo,vb,gs,fv,cn,sn,hM,v1,v2,hR⟩:=hJ
  all_goals
   have c2:=hM.mc.c2;have c4:=hM.mc.c4;have c5:=hM.mc.c5;have c9:=hM.mc.lt;have HM:=hid hM;have HO:=hid (uR hM.wd.wd hM.wd.out);have HR:=hid hR;clear hM hR
  .simp only[qi,sO,Option.map_some]at c4;obtain h0|h0:=Nat.eq_zero_or_pos gk
   .have a2: ¬(k:Int)<(fuel:Int):=by omega
    rw[h0]at HR;clear hm hk h0;go_wp2_with fail;refine HO.out.mono ?_;rintro en w4 ⟨rfl,rfl⟩;go_wp2_with fail;exact cW (v:= .tuple #[.string ⟨s.out.toArray⟩,.int .i64 0,.int .i64 1]) (by simp[results,results58,go_sem]) rfl ⟨by rw[<-HR.out];rfl,HM.out.wd.old⟩
   .obtain⟨n,hn⟩: ∃n,gk=n+1:=⟨gk-1,by omega⟩;have a5:=hid hn;rw[hn]at HR hm;clear hn;have a2:(k:Int)<(fuel:Int):=by omega
    have b1:=hid hm;have b6:k<=90000:=by omega
    clear hm;go_wp2_with fail;refine(HS.out _ _ _ _ _ _ _ _ _ _ _ _ _ _ _ _ _ _ b6 b5 HM.out b1.out HR.out).mono ?_;rintro en w4 ⟨e,rfl,hJ⟩;have HJ:=hid hJ;clear hJ;go_wp2_with fail
    go_roundg n
    case measure=>have:=a5.out;omega
    case rel=>exact⟨k+1,e,rfl,by simp,by have:=a5.out;omega,HJ.out⟩
  .obtain⟨e1,e2,e3⟩:=zD h6 b3;generalize hE:cD m=E at*;have HE:=hid hE;have b0:(E==0)=false:=by simp[e1]
   clear hE hk;obtain⟨cu,a8⟩: ∃cu,sO (qi rs)= .pointer cu:=⟨_,rfl⟩;rw[a8]at c4;clear a8 e1
   by_cases a2:(k:Int)<(fuel:Int)<;>rcases cu with _|cu
   all_goals
    go_wp2_with fail;refine HO.out.mono ?_;rintro en w4 ⟨rfl,rfl⟩;go_wp2_with fail;exact cW (v:= .tuple #[.string ⟨s.out.toArray⟩,.int .i64 0,.int .i64 E]) (by simp[results,results58,go_sem]) rfl ⟨by rw[HR.out,<-HE.out],HM.out.wd.old⟩
  .simp only[qi,sO,Option.map_none]at c4;have b2:=hid (λn=>uR (HM.out.new (aK _ wr n)).wd.wd (HM.out.new (aK _ wr n)).wd.out);clear hk HO
   by_cases a2:(k:Int)<(fuel:Int)
   all_goals
    go_wp2_with fail
    go_quiet (exact Calls.quiet_of_same (b2.out _))
    go_wp2_with fail;exact cW (v:= .tuple #[.string ⟨s.out.toArray⟩,.int .i64 v,.int .i64 0]) (by simp[results,results58,go_sem]) rfl ⟨by rw[HR.out];rfl,HM.out.wd.old.trans (aK _ _ _)⟩
end
end
end Go.Proofs.YtpfkkmacakjmbaaGreatDoor
