import Derived.Test.YtpfkkmacakjmbaaGreatDoorP36
set_option maxRecDepth 100000
set_option maxHeartbeats 6400000
set_option linter.all false
namespace Go.Proofs.YtpfkkmacakjmbaaGreatDoor
open Proofs.Tryz
section
open Go Go.RowKit Sp
section
variable {w0 w w':World} {im:Img} {T:cG} {mb tx:Nat} {tv:Value} {bw cells:Nat} {ans:Int} {inp:ByteArray} {r:Fr} {rs:List Fr} {f:Fm} {fs:List Fm} {s:Ev} {vo vb:Value} {gs:List Nat} {fv:List Value} {cn:Int} {sn:Nat->Int} {b:Bod} {x:Ins} {st l:L_}
theorem CG (h:At w0 w im T mb tx tv bw cells ans inp r rs f fs s vo vb gs fv cn sn b x st l) (ht:fd w0) (h40:inp.size<=40) (h4:s.heap.length<=4000) (hol:s.out.length<=90000) (hcn:cn<=100000) (base:Nat) (L:List (Nat×List St)) (hXT:fV w0 base tv L) (hLT:L.map (·.2)=T):
  Calls prog 88 #[.pointer (some ⟨mb,0,none⟩)] w (λen w'=> ∃e,en= .returned (.int .i64 e)/\ed w0 im T mb tx tv bw cells ans inp cn (Sp.stepX im inp T cells x f fs s) e w'):=by
 have a:=h.wx.op;simp[df]at a
 by_cases h107:x.op.toNat=107
 .exact Fb h h107
 by_cases h114:x.op.toNat=114
 .exact Fd h h40 h114
 by_cases h119:x.op.toNat=119
 .exact Fe h ht hol h119
 by_cases h122:x.op.toNat=122
 .exact Fc h h122
 by_cases h100:x.op.toNat=100
 .exact Ff h h100
 by_cases h108:x.op.toNat=108
 .exact Fi h h108
 by_cases h115:x.op.toNat=115
 .exact Fj h h115
 by_cases h106:x.op.toNat=106
 .exact Fg h h106
 by_cases h102:x.op.toNat=102
 .exact Fh h h102
 by_cases h101:x.op.toNat=101
 .exact Fk h h101
 by_cases h110:x.op.toNat=110
 .exact Fq h h4 hcn h110
 by_cases h120:x.op.toNat=120
 .exact Fo h h4 h120
 by_cases h103:x.op.toNat=103
 .exact Fl h h4 h103
 by_cases h112:x.op.toNat=112
 .exact Fn h h4 h112
 by_cases h99:x.op.toNat=99
 .exact Fs h h4 base L hXT hLT h99
 by_cases h116:x.op.toNat=116
 .exact Fp h h116
 exact yh h (by omega)
theorem Ft (hM:McQ w0 w im T mb tx tv bw cells ans inp (r::rs) (f::fs) s vo vb gs fv cn sn) (hT:d9 w0 tx im) (hF:Fit im T) {n:Nat} (hm:MTn im T f fs s (n+1)) (ht:fd w0) (h40:inp.size<=40) (hcn:cn<=100000) (base:Nat) (L:List (Nat×List St)) (hXT:fV w0 base tv L) (hLT:L.map (·.2)=T):
  Calls prog 88 #[.pointer (some ⟨mb,0,none⟩)] w (λen w'=> ∃e,en= .returned (.int .i64 e)/\ed w0 im T mb tx tv bw cells ans inp cn (fc im inp T cells ⟨f::fs,s⟩) e w')/\
  match fc im inp T cells ⟨f::fs,s⟩with
  | .go m=> ∃f' r',m.fr=f'::r'/\MTn im T f' r' m.ev n
  | .bad e o=>6<=e/\e<=10/\o=s.out
  | .fin v o=>(∃k,v= .i k/\ -2147483648<=k/\k<2147483648)/\o=s.out:=by
 obtain⟨b,x,st,l,a,g,d,c⟩:=yG inp cells hF hm;rw[d];exact⟨CG ⟨hM,hT,hF,hm.mt,a⟩ ht h40 (by have:=hm.hn;omega) (by have:=hm.on;omega) hcn base L hXT hLT,c⟩
end
theorem AX {w0 w2 w':World} {im:Img} {T:cG} {mb tx bw cells q fb bl:Nat} {tv lv vl vi:Value} {ans:Int} {inp:ByteArray} {b:Bod} {p:Nat×List St} (hB:B_ w0 w2) (hw:XwC w2 bw tx inp 0 S_ S_ 0) (hbw:w0.heap.size<=bw) (hmb:w0.heap.size<=mb) (hm2:mb<w2.heap.size) (hne:bw≠mb)
  (g:Ei w0 w2 w' mb tx tv bw cells none ans 1 im.zx b p fb bl lv vl vi) (hq:im.zj[q]?=some b) (hTq:T[q]?=some p.2):
  McQ w0 w' im T mb tx tv bw cells ans inp [⟨fb,bl,p.1,vl,vi,lv,S_,b,p.2⟩] [⟨q,0,[],aO b []⟩] ⟨[],0,0,[]⟩ S_ S_ [] [] 0 (λ_=>0):=by
 have h:=hB.size;have d:B_ w0 w':=hB.next g.but (λk hk e=>by have e:k=mb:=e;omega);have l: ∀k,lv.ownBlock=some k->w2.heap.size<=k:=λk hk=>aC g.lo k hk
 have f:w'.ownsRow w0.heap.size 168 2 lv (aO b []).length (az (aO b [])):=by
  have e:aO b []=b.zy.map du:=by simp[aO]
  rw[e,bZ];exact dh g.lo h
 have m:bw<w2.heap.size:=ae hw;have i:FrM w0 w' im T none 1 ⟨fb,bl,p.1,vl,vi,lv,S_,b,p.2⟩ ⟨q,0,[],aO b []⟩:=⟨hq,hTq,g.fr,g.lb,f,wu _ _,g.bt,g.it,g.tb,λk _ e=>(by cases e),Nat.le_trans h g.gf,Nat.le_trans h g.gl⟩;refine⟨⟨d,?_,⟨rfl,Or.inl ⟨rfl,rfl⟩⟩,⟨rfl,Or.inl ⟨rfl,rfl⟩⟩,rfl,rfl,λk o g' v a=>(by simp at a),λj k g' a=>(by simp at a),λk hk=> ?_,λk hk=> ?_,λj k v v' g' a=>(by simp at a),by omega,λk=>(by omega)⟩,g.mc,⟨i,trivial,λk _ q' hq'=>(by cases hq')⟩,hmb⟩
 .have:((min 0 inp.size:Nat):Int)=0:=by simp
  show XwC w' bw tx inp ((min 0 inp.size:Nat):Int) _ _ _
  rw[this];exact hw.but g.but (λe=>hne e)
 .obtain e0|hk|hk|hk| ⟨v,hv,_⟩:=hk
  .rw[e0];refine⟨hbw,λho=> ?_⟩;obtain e| ⟨r,hr,ho⟩:=ho
   .exact hne e
   .simp only[List.mem_singleton]at hr;subst hr;obtain e|e|e|e:=ho
    .have:=g.gf;have e:bw=fb:=e;omega
    .have:=g.gl;have e:bw=bl:=e;omega
    .have:=l bw e;omega
    .cases e
  .cases hk
  .cases hk
  .cases hk
  .cases hv
 .obtain rfl| ⟨r,hr,ho⟩:=hk
  .exact⟨g.mc.lt,λc fz e=>bL g.mc e (by decide) rfl⟩
  .simp only[List.mem_singleton]at hr;subst hr;exact⟨i.lt ho,λc fz e=>i.nb ho c fz e⟩
end
section
open Go Go.RowKit Sp
attribute [local go_sem ↓] eF eG
def Ek (J:Fm->List Fm->Ev->Nat->Prop) (w0:World) (im:Img) (T:cG) (mb tx:Nat) (tv:Value) (bw cells:Nat) (inp:ByteArray):Prop:=
 ∀(w:World) (r:Fr) (rs:List Fr) (f:Fm) (fs:List Fm) (s:Ev) (vo vb:Value) (gs:List Nat) (fv:List Value) (cn:Int) (sn:Nat->Int) (ans:Int) (n:Nat),McQ w0 w im T mb tx tv bw cells ans inp (r::rs) (f::fs) s vo vb gs fv cn sn->J f fs s (n+1)->cn<=100000->
  Calls prog 88 #[.pointer (some ⟨mb,0,none⟩)] w (λen w'=> ∃e,en= .returned (.int .i64 e)/\ed w0 im T mb tx tv bw cells ans inp cn (fc im inp T cells ⟨f::fs,s⟩) e w')/\
  match fc im inp T cells ⟨f::fs,s⟩with
  | .go m=> ∃f' r',m.fr=f'::r'/\J f' r' m.ev n
  | .bad e o=>6<=e/\e<=10/\o=s.out
  | .fin v o=>(∃k,v= .i k/\ -2147483648<=k/\k<2147483648)/\o=s.out
def Fu (J:Fm->List Fm->Ev->Nat->Prop) (w0:World) (im:Img) (T:cG) (mb tx:Nat) (tv:Value) (bw cells:Nat) (inp:ByteArray) (RV:L_×Int×Nat) (n k:Nat) (e:Int) (w:World):Prop:=
 (e=0/\ ∃r rs f fs s vo vb gs fv,∃cn:Int,∃sn ans,cn<=k/\McQ w0 w im T mb tx tv bw cells ans inp (r::rs) (f::fs) s vo vb gs fv cn sn/\J f fs s n/\kZ im inp T cells n ⟨f::fs,s⟩=RV)\/
 (∃m rs fs s vo vb gs fv cn sn ans,6<=m/\m<=10/\e=cr m/\McQ w0 w im T mb tx tv bw cells ans inp rs fs s vo vb gs fv cn sn/\RV=(s.out,0,m))\/
 (e=0/\ ∃v s vo vb gs fv cn sn,McQ w0 w im T mb tx tv bw cells v inp [] [] s vo vb gs fv cn sn/\ -2147483648<=v/\v<2147483648/\RV=(s.out,v,0))
section
variable {J:Fm->List Fm->Ev->Nat->Prop} {w0 w:World} {im:Img} {T:cG} {mb tx:Nat} {tv:Value} {bw cells:Nat} {inp:ByteArray} {RV:L_×Int×Nat}
theorem CH {r:Fr} {rs:List Fr} {f:Fm} {fs:List Fm} {s:Ev} {vo vb:Value} {gs:List Nat} {fv:List Value} {cn:Int} {sn:Nat->Int} {ans:Int} {n k:Nat} (hS:Ek J w0 im T mb tx tv bw cells inp)
  (hk:k<=90000) (hcn:cn<=k) (hM:McQ w0 w im T mb tx tv bw cells ans inp (r::rs) (f::fs) s vo vb gs fv cn sn) (hm:J f fs s (n+1)) (hR:kZ im inp T cells (n+1) ⟨f::fs,s⟩=RV):
  Calls prog 88 #[.pointer (some ⟨mb,0,none⟩)] w (λen w'=> ∃e,en= .returned (.int .i64 e)/\Fu J w0 im T mb tx tv bw cells inp RV n (k+1) e w'):=by
 obtain⟨i,b⟩:=hS _ _ _ _ _ _ _ _ _ _ _ _ _ _ hM hm (by omega);refine i.mono ?_;rintro en w1 ⟨e,rfl,c⟩;refine⟨e,rfl,?_⟩;unfold kZ at hR
 cases hsr:fc im inp T cells ⟨f::fs,s⟩with
 |go m=>
  rw[hsr]at c b hR;obtain⟨rfl,rs',vo',vb',gs',fv',cn',sn',hc,a⟩:=c;obtain⟨f',r',d,g⟩:=b;have em:m=⟨f'::r',m.ev⟩:=by cases m;simp only at d;subst d;rfl
  rw[d]at a
  match rs',a with
  | [],a=>exact a.fr.elim
  |q::rs',a=>exact Or.inl ⟨rfl,q,rs',f',r',m.ev,vo',vb',gs',fv',cn',sn',ans,by omega,a,g,by rw[<-em];exact hR⟩
 |bad m o=>
  rw[hsr]at c b hR;obtain⟨rfl,rs',fs',s',vo',vb',gs',fv',cn',sn',h,a⟩:=c;exact Or.inr (Or.inl ⟨m,rs',fs',s',vo',vb',gs',fv',cn',sn',ans,b.1,b.2.1,rfl,a,by rw[h];exact hR.symm⟩)
 |fin v o=>
  rw[hsr]at c b hR;obtain⟨rfl,s',vo',vb',gs',fv',cn',sn',h,a⟩:=c;obtain⟨⟨j,rfl,l,j2⟩,_⟩:=b;exact Or.inr (Or.inr ⟨rfl,j,s',vo',vb',gs',fv',cn',sn',a,l,j2,by rw[h];exact hR.symm⟩)
end
theorem AY {J:Fm->List Fm->Ev->Nat->Prop} {w:World} {im:Img} {T:cG} {tx:Nat} {tv:Value} {cells fuel base:Nat} {inp:ByteArray} {L:List (Nat×List St)} (hT:d9 w tx im) (hwf:WfI im) (hTl:T.length=im.zj.length) {bs:List Bod} {m:Bod} (hbs:im.zj=bs++ [m]) (hJ:J ⟨bs.length,0,[],aO m []⟩ [] ⟨[],0,0,[]⟩ fuel) (hXT:fV w base tv L) (hLT:L.map (·.2)=T) {nb:Nat} (hnb:nb=im.zj.length) {w2:World} (hw2:w2=(w.alloc (.cells #[.pointer (some ⟨tx,0,none⟩),.string inp,.int .i64 0,S_,S_,.int .i64 0] 211)).alloc (.cells #[.pointer (some ⟨tx,0,none⟩),tv,.pointer (some ⟨w.heap.size,0,none⟩),.int .i64 cells,.pointer none,.int .i32 0] 157)):
  Calls prog 87 #[.pointer (some ⟨w.heap.size+1,0,none⟩),.int .i64 ((nb:Int)-1)] w2 (λen w'=>en= .returned (.tuple #[])/\Fu J w im T (w.heap.size+1) tx tv w.heap.size cells inp (iP im inp T cells fuel) fuel 0 0 w'):=by
 have a:im.zj.length=bs.length+1:=by rw[hbs];simp
 have b:im.zj[bs.length]?=some m:=by rw[hbs];simp
 have j:L.length=im.zj.length:=by rw[<-hTl,<-hLT,bZ]
 obtain⟨p,hp⟩: ∃p,L[bs.length]?=some p:=⟨_,aM (by omega)⟩;have c:T[bs.length]?=some p.2:=by rw[<-hLT,cg,hp];rfl
 have f:B_ w w2:=by rw[hw2];exact(ag _ _ _).trans (ag _ _ _)
 have i:XwC w2 w.heap.size tx inp 0 S_ S_ 0:=by
  rw[hw2];exact((ag (λ_=>False) _ _).block _ (by simp) nF).trans (bj w _)
 have h:MbB w2 (w.heap.size+1) tx tv w.heap.size cells none 0:=by
  rw[hw2];exact aw (by simp) _
 have e:((nb:Int)-1)=((bs.length:Nat):Int):=by omega
 rw[e];have d:=hwf.bod m (a9 b);refine(sG w w2 (w.heap.size+1) tx w.heap.size cells 0 base tv 0 im L bs.length m p none (Or.inl ⟨rfl,rfl⟩) (by omega) h f hT hXT b hp ?_ (by have:=hwf.nb;omega)).mono ?_
 .exact d.loc.1
 .rintro en w' ⟨rfl,fb,bl,lv,vl,vi,g⟩;refine⟨rfl,Or.inl ⟨rfl,_,_,_,_,_,_,_,_,_,0,_,_,by omega,AX f i (bG _) (by omega) h.lt (by omega) g b c,hJ,?_⟩⟩;unfold iP;rw[a];simp[b]
def Gf (J:Fm->List Fm->Ev->Nat->Prop) (w0:World) (im:Img) (T:cG) (mb tx:Nat) (tv:Value) (bw cells:Nat) (inp:ByteArray) (RV:L_×Int×Nat) (fuel mm:Nat) (vf vs:Value) (w:World):Prop:=
 ∃(k:Nat) (e:Int),vf= .int .i64 e/\vs= .int .i64 k/\k+mm=fuel/\Fu J w0 im T mb tx tv bw cells inp RV mm k e w
theorem AZ {m:Nat} (h:6<=m) (h':m<=10):cr m≠0/\2<=cr m/\cr m<=6:=by
 have:m=6\/m=7\/m=8\/m=9\/m=10:=by omega
 obtain rfl|rfl|rfl|rfl|rfl:=this<;>decide
section
variable {J:Fm->List Fm->Ev->Nat->Prop} {w:World} {im:Img} {T:cG} {tx base:Nat} {tv:Value} {cells fuel:Nat} {inp:ByteArray} {L:List (Nat×List St)}
theorem DU (hT:d9 w tx im) (hwf:WfI im) (hTl:T.length=im.zj.length) {bs:List Bod} {m:Bod} (hbs:im.zj=bs++ [m]) (a:J ⟨bs.length,0,[],aO m []⟩ [] ⟨[],0,0,[]⟩ fuel) (hSt: ∀mb bw,Ek J w im T mb tx tv bw cells inp) (hXT:fV w base tv L) (hLT:L.map (·.2)=T) (hfu:fuel<=4000):
  Calls prog 58 #[.pointer (some ⟨tx,0,none⟩),tv,.string inp,.int .i64 cells,.int .i64 fuel] w (λen w'=>en= .returned (.tuple #[.string ⟨(iP im inp T cells fuel).1.toArray⟩,.int .i64 (iP im inp T cells fuel).2.1,.int .i64 (cr (iP im inp T cells fuel).2.2)])/\B_ w w'):=by
 obtain⟨ax,capx,rfl⟩:=aA hXT.1;have O:=hid (λ(nb:Nat) (h:nb=im.zj.length) w2 hw2=>AY (inp:=inp) (cells:=cells) (w2:=w2) hT hwf hTl hbs a hXT hLT h hw2);have HS:=hid (λw' mb bw RV r rs f fs s vo vb gs fv cn sn ans n k=> @CH J w w' im T mb tx (.slice ax L.length capx) bw cells inp RV r rs f fs s vo vb gs fv cn sn ans n k (hSt mb bw));obtain⟨v2,t2,M,lb,S,hm,hf⟩:=hT.bod;have c:lb.length=im.zj.length:=by have:=congrArg List.length hm;simpa using this
 have d:=hid c;clear c;have x:lb.length<=7:=by rw[d.out];exact hwf.nb
 obtain⟨ao,capo,rfl⟩:=aA S;have p:=hid (λY=>AJ tx inp Y);generalize q:iP im inp T cells fuel=RV at*;have a0:=hid q;clear q S hm hf hT hwf hTl hbs a hSt hXT hLT;generalize L.length=nL at*;generalize h:lb.length=nb at*;clear h
 go_in
 go_wp2_with fail;refine(p.out _).mono ?_;rintro en w1 ⟨rfl,rfl⟩;go_wp2_with fail;refine(O.out nb d.out _ rfl).mono ?_;rintro en w3 ⟨rfl,a⟩;have y:=hid a;clear a O p t2 d x M;generalize F:w.heap.size=bw at*;generalize bw+1=mb at*;clear F;go_wp2_with fail
 go_loopg [14,15] fuel (λmm vf vs wr=>Gf J w im T mb tx (.slice ax nL capx) bw cells inp RV fuel mm vf vs wr)
 case atStart=>exact⟨0,0,rfl,rfl,by omega,y.out⟩
 case round=>
  clear y;obtain⟨k,e,rfl,rfl,H,a⟩:=hrel;obtain⟨rfl,r,rs,f,fs,s,vo,vb,gs,fv,cn,sn,ans,G,b,hm,z⟩ | ⟨m,rs,fs,s,vo,vb,gs,fv,cn,sn,ans,h6,D,rfl,b,z⟩ | ⟨rfl,v,s,vo,vb,gs,fv,cn,sn,b,v1,v2,z⟩:=a
  all_goals
   have c2:=b.mc.c2;have c4:=b.mc.c4;have c5:=b.mc.c5;have a1:=b.mc.lt;have i:=hid b;have B:=hid (vR b.wd.wd b.wd.out);have j:=hid z;clear b z
  .simp only[jR,kA,Option.map_some]at c4;obtain h0|h0:=Nat.eq_zero_or_pos gk
   .have g: ¬(k:Int)<(fuel:Int):=by omega
    rw[h0]at j;clear hm H h0;go_wp2_with fail;refine B.out.mono ?_;rintro en X ⟨rfl,rfl⟩;go_wp2_with fail;exact cU (v:= .tuple #[.string ⟨s.out.toArray⟩,.int .i64 0,.int .i64 1]) (by simp[results,results58,go_sem]) rfl ⟨by rw[<-j.out];rfl,i.out.wd.old⟩
   .obtain⟨n,hn⟩: ∃n,gk=n+1:=⟨gk-1,by omega⟩;have l:=hid hn;rw[hn]at j hm;clear hn;have g:(k:Int)<(fuel:Int):=by omega
    have A:=hid hm;have I:k<=90000:=by omega
    clear hm;go_wp2_with fail;refine(HS.out _ _ _ _ _ _ _ _ _ _ _ _ _ _ _ _ _ _ I G i.out A.out j.out).mono ?_;rintro en X ⟨e,rfl,a⟩;have y:=hid a;clear a;go_wp2_with fail
    go_roundg n
    case measure=>have:=l.out;omega
    case rel=>exact⟨k+1,e,rfl,by simp,by have:=l.out;omega,y.out⟩
  .obtain⟨P,e2,e3⟩:=AZ h6 D;generalize Q:cr m=E at*;have Z:=hid Q;have b0:(E==0)=false:=by simp[P]
   clear Q H;obtain⟨cu,t⟩: ∃cu,kA (jR rs)= .pointer cu:=⟨_,rfl⟩;rw[t]at c4;clear t P
   by_cases g:(k:Int)<(fuel:Int)<;>rcases cu with _|cu
   all_goals
    go_wp2_with fail;refine B.out.mono ?_;rintro en X ⟨rfl,rfl⟩;go_wp2_with fail;exact cU (v:= .tuple #[.string ⟨s.out.toArray⟩,.int .i64 0,.int .i64 E]) (by simp[results,results58,go_sem]) rfl ⟨by rw[j.out,<-Z.out],i.out.wd.old⟩
  .simp only[jR,kA,Option.map_none]at c4;have C:=hid (λn=>vR (i.out.new (bp _ wr n)).wd.wd (i.out.new (bp _ wr n)).wd.out);clear H B
   by_cases g:(k:Int)<(fuel:Int)
   all_goals
    go_wp2_with fail
    go_quiet (exact Calls.quiet_of_same (C.out _))
    go_wp2_with fail;exact cU (v:= .tuple #[.string ⟨s.out.toArray⟩,.int .i64 v,.int .i64 0]) (by simp[results,results58,go_sem]) rfl ⟨by rw[j.out];rfl,i.out.wd.old.trans (bp _ _ _)⟩
theorem CI (hT:d9 w tx im) (hF:Fit im T) (ht:fd w) (h40:inp.size<=40) (hXT:fV w base tv L) (hLT:L.map (·.2)=T) (hfu:fuel<=4000):
  Calls prog 58 #[.pointer (some ⟨tx,0,none⟩),tv,.string inp,.int .i64 cells,.int .i64 fuel] w (λen w'=>en= .returned (.tuple #[.string ⟨(iP im inp T cells fuel).1.toArray⟩,.int .i64 (iP im inp T cells fuel).2.1,.int .i64 (cr (iP im inp T cells fuel).2.2)])/\B_ w w'):=by
 obtain⟨bs,m,a,c⟩:=hF.main;have b:im.zj.length=bs.length+1:=by rw[a];simp
 have d:im.zj[bs.length]?=some m:=by rw[a];simp
 exact DU (J:=MTn im T) hT hF.wf hF.len a ⟨vg hF b d,by simp;omega,by simp;omega,by simp;omega⟩ (λmb bw w' r rs f fs s vo vb gs fv cn sn ans n hM hm hc=>Ft hM hT hF hm ht h40 hc base L hXT hLT) hXT hLT hfu
end
theorem wA (s inp:ByteArray) (cells fuel:Int) (w:World) (hmax:s.size<=maxLen) (htab:fd w):
  Calls prog 32 #[.string s,.string inp,.int .i64 cells,.int .i64 fuel] w λen w'=>en= .returned (.tuple #[.string ⟨(lT s inp cells fuel).1.toArray⟩,.int .i64 (lT s inp cells fuel).2.1,.int .i64 (lT s inp cells fuel).2.2])/\B_ w w':=by
 obtain⟨RR,a⟩: ∃RR,lT s inp cells fuel=RR:=⟨_,rfl⟩;rw[a]
 by_cases hg:40<inp.size\/cells<0\/100<cells\/fuel<0\/4000<fuel
 .have b:RR=([],0,1):=by rw[<-a];unfold lT;rw[if_pos hg]
  subst b;clear a;have y:40<(inp.size:Int)\/(¬40<(inp.size:Int)/\cells<0)\/(¬40<(inp.size:Int)/\ ¬cells<0/\100<cells)\/(¬40<(inp.size:Int)/\ ¬cells<0/\ ¬100<cells/\fuel<0)\/(¬40<(inp.size:Int)/\ ¬cells<0/\ ¬100<cells/\ ¬fuel<0/\4000<fuel):=by omega
  clear hg;obtain g| ⟨g,g2⟩ | ⟨g,g2,m⟩ | ⟨g,g2,m,C⟩ | ⟨g,g2,m,C,D⟩:=y
  all_goals
   go_in
   go_wp2_with fail;exact cU (v:= .tuple #[.string ⟨#[]⟩,.int .i64 0,.int .i64 1]) (by simp[results,results32,go_sem]) rfl ⟨rfl,cq _ _⟩
 .obtain⟨fu,rfl⟩: ∃fu:Nat,fuel=fu:=⟨fuel.toNat,by omega⟩;obtain⟨ce,rfl⟩: ∃ce:Nat,cells=ce:=⟨cells.toNat,by omega⟩;have g1: ¬40<(inp.size:Int):=by omega
  have g2: ¬(ce:Int)<0:=by omega
  have m: ¬100<(ce:Int):=by omega
  have C: ¬(fu:Int)<0:=by omega
  have D: ¬4000<(fu:Int):=by omega
  have key:Calls prog 36 #[.string s] w λen w'=>B_ w w'/\((∃(e:Nat) (p:Int),en= .returned (.agg #[.int .i64 e,.int .i64 p,.pointer none,S_])/\0<e/\RR=([],0,e))\/ ∃im T g ao n cap,en= .returned (.agg #[.int .i64 0,.int .i64 0,.pointer (some ⟨g,0,none⟩),.slice ao n cap])/\Fit im T/\d9 w' g im/\(∃l,l.length=n/\l.map (·.2)=T/\fV w' w.heap.size (.slice ao n cap) l)/\RR=iP im inp T ce fu):=by
   refine(kU s w hmax).mono ?_;rintro en w' ⟨I,c⟩;refine⟨I,?_⟩;unfold lr at c;unfold lT at a;rw[if_neg hg]at a
   cases hl:eZ s with
   |error e=>
    rw[hl]at c a;obtain⟨e,p⟩:=e;exact Or.inl ⟨e,p,c,(zw hl).1,a.symm⟩
   |ok im=>
    rw[hl]at c a;simp only at c a
    cases ht:eR im 0 im.zj with
    |error k=>
     rw[ht]at c a;exact Or.inl ⟨4,k,c,by omega,a.symm⟩
    |ok T=>
     rw[ht]at c a;obtain⟨g,ao,cap,l,E,F,G,H⟩:=c;exact Or.inr ⟨im,T,g,ao,l.length,cap,E,EB hl (BF ht),H,⟨l,rfl,F,G⟩,a.symm⟩
  have A:=hid key;clear key a
  go_in
  go_wp2_with fail;refine A.out.mono ?_;rintro en w1 ⟨d,x⟩;clear A;obtain⟨e,p,rfl,M,rfl⟩ | ⟨im,T,g,ao,n,cap,rfl,t,h,i,b⟩:=x
  .have L:((e:Int)!=0)=true:=by rw[bne_iff_ne];omega
   go_wp2_with fail
   go_quiet (fail)
   go_wp2_with fail;exact cU (v:= .tuple #[.string ⟨#[]⟩,.int .i64 0,.int .i64 e]) (by simp[results,results32,go_sem]) rfl ⟨rfl,(d.trans (ag _ _ _)).trans (bp _ _ _)⟩
  .have j:Hid (∀ob,Calls prog 58 #[.pointer (some ⟨g,0,none⟩),.slice ao n cap,.string inp,.int .i64 ce,.int .i64 fu] (w1.alloc ob) λen w'=>en= .returned (.tuple #[.string ⟨(iP im inp T ce fu).1.toArray⟩,.int .i64 (iP im inp T ce fu).2.1,.int .i64 (cr (iP im inp T ce fu).2.2)])/\B_ (w1.alloc ob) w'):=λob=>by
    obtain⟨l,hl,z,J⟩:=i;have q:B_ w1 (w1.alloc ob):=ag _ _ _;exact CI (h.but q) t ((htab.but d).but q) (by omega) (J.but q) z (by omega)
   have f:=BG inp ce t (fu:=fu) (by omega);rw[<-b]at j f;have B:=hid f;clear h b f i t;obtain⟨o,v,e⟩:=RR;dsimp only at j B;go_wp2_with fail;refine(j.out _).mono ?_;rintro en w2 ⟨rfl,r⟩;clear j;go_wp2_with fail;refine(tZ e B.out w2).mono ?_;rintro en O ⟨rfl,rfl⟩;go_wp2_with fail;exact cU (v:= .tuple #[.string ⟨o.toArray⟩,.int .i64 v,.int .i64 e]) (by simp[results,results32,go_sem]) rfl ⟨rfl,(d.trans (ag _ _ _)).trans r⟩
end
end Go.Proofs.YtpfkkmacakjmbaaGreatDoor
