import Derived.Test.YtpfkkmacakjmbaaGreatDoorP05
import Derived.Test.YtpfkkmacakjmbaaGreatDoorP01
set_option maxRecDepth 100000
set_option maxHeartbeats 6400000
set_option linter.all false
namespace Go.Proofs.YtpfkkmacakjmbaaGreatDoor
open Proofs.Tryz
section
open Go Go.RowKit Sp
theorem yV {bs:List Bod} {x m:Int} {k:Nat} (hk:k<bs.length) (h:bs[k].cls=x/\bs[k].meth=m) (hno: ∀j (hj:j<bs.length),j<k-> ¬(bs[j].cls=x/\bs[j].meth=m)):gx bs x m=k:=by
 have:ia bs x m=some k:=by
  unfold ia;rw[List.findIdx?_eq_some_iff_getElem];refine⟨hk,by simp[h.1,h.2],λj hj=> ?_⟩;have:=hno j (by omega) hj;simpa using this
 simp[gx,this]
theorem yW {bs:List Bod} {x m:Int} (hno: ∀j (a:j<bs.length),¬(bs[j].cls=x/\bs[j].meth=m)):gx bs x m= -1:=by
 have:ia bs x m=none:=by
  unfold ia;rw[List.findIdx?_eq_none_iff];intro b c;obtain⟨j,a,rfl⟩:=List.getElem_of_mem c;simpa using hno j a
 simp[gx,this]
theorem tz (base bi:Nat) (v0 v1 v2:Value) (l:List (Bod×Value×Value)) (x m:Int) (w:World) (hl:l.length<=100) (hI:ImB w bi v0 v1 v2) (hO:w.ownsRow base 52 5 v2 l.length (da l)):
  Calls prog 132 #[.pointer (some ⟨bi,0,none⟩),.int .i64 x,.int .i64 m] w λen w'=>en= .returned (.int .i64 (gx (l.map (·.1)) x m))/\w'=w:=by
 obtain⟨R,d⟩: ∃R,gx (l.map (·.1)) x m=R:=⟨_,rfl⟩;rw[d];have i:Hid (gx (l.map (·.1)) x m=R):=d;clear d;obtain⟨ao,cap,rfl⟩:=ay hO;have d2:=hI.c2
 go_in
 go_wp2
 go_loop [7] (λt=> ∃k:Nat,k<=l.length/\t= .int .i64 k/\Hid (∀j (b:j<l.length),j<k-> ¬(l[j].1.cls=x/\l[j].1.meth=m))) (λt=>l.length-(intOf t).toNat)
 case atStart=>exact⟨0,Nat.zero_le _,rfl,λj b h=>absurd h (by omega)⟩
 case round=>
  obtain⟨k,A,rfl,n⟩:=hrel
  by_cases hlt:k<l.length
  .have e:=aG hlt;obtain⟨g,rfl,y,z,a⟩:=aE hO (by omega);have s:=a _ _ (eP e);have v:=a _ _ (eQ e);clear a;have r:(k:Int)<(l.length:Int):=by omega
   clear e
   by_cases h1:l[k].1.cls=x
   .by_cases h2:l[k].1.meth=m
    .have c:R=k:=by
      rw[<-i.out];refine yV (by simpa using hlt) (by simp[h1,h2]) (λj b f=> ?_);have:=n.out j (by simpa using b) f;simpa using this
     subst c;have q:(l[k].1.cls==x)=true:=by simpa using h1
     have b2:(l[k].1.meth==m)=true:=by simpa using h2
     clear h1 h2
     go_wp2
     go_ret;exact⟨rfl,rfl⟩
    .have q:(l[k].1.cls==x)=true:=by simpa using h1
     have b2:(l[k].1.meth==m)=false:=by simpa using h2
     have p:Hid (∀j (b:j<l.length),j<k+1-> ¬(l[j].1.cls=x/\l[j].1.meth=m)):=by
      intro j b f;obtain h|h:=gC j k
      .exact n.out j b h
      .have:j=k:=by omega
       subst this;exact λh=>h2 h.2
     clear h1 h2
     go_wp2
     go_round
     case rel=>exact⟨k+1,by omega,by go_num,p⟩
     case measure=>simp[intOf];omega
   .have q:(l[k].1.cls==x)=false:=by simpa using h1
    have p:Hid (∀j (b:j<l.length),j<k+1-> ¬(l[j].1.cls=x/\l[j].1.meth=m)):=by
     intro j b f;obtain h|h:=gC j k
     .exact n.out j b h
     .have:j=k:=by omega
      subst this;exact λh=>h1 h.1
    clear h1
    go_wp2
    go_round
    case rel=>exact⟨k+1,by omega,by go_num,p⟩
    case measure=>simp[intOf];omega
  .have c:R= -1:=by
    rw[<-i.out];refine yW (λj b=> ?_);have:=n.out j (by simpa using b) (by simp at b;omega);simpa using this
   subst c
   go_wp2
   go_ret;exact⟨rfl,rfl⟩
end
section
open Go Go.RowKit Sp
attribute [local go_sem ↓] eY eZ
theorem F8:(prog.info? 52).map (λi=>(i.zero,i.size,i.bytes))=some (some (.agg #[.int .i64 0,.int .i64 0,.string ⟨#[]⟩,S_,S_]),5,80):=by kernel_rfl
structure tA (w:World) (top:Nat) (v2:Value) (l:List (Bod×Value×Value)):Prop where
 own:w.ownsRow top 52 5 v2 l.length (da l)
 code: ∀x∈l,w.ownsRow top 144 4 x.2.1 x.1.code.length (dx x.1.code)/\x.2.2= S_/\(∀g,x.2.1.ownBlock=some g->v2.ownBlock≠some g)
theorem tA.but {F:Nat->Prop} {w w':World} {top:Nat} {v2:Value} {l:List (Bod×Value×Value)} (h:tA w top v2 l) (hb:But F w w') (hF: ∀k,F k->k<top):tA w' top v2 l:=
 ⟨ag h.own hb (λg hg hf=>by have:=aw h.own g hg;have:=hF g hf;omega),λx hx=>⟨ag (h.code x hx).1 hb (λg hg hf=>by have:=aw (h.code x hx).1 g hg;have:=hF g hf;omega),(h.code x hx).2⟩⟩
section
variable (b:Nat) (s:ByteArray) (i:Nat) (bi:Nat) (vc vt:Value) (w:World)
theorem su (base top:Nat) (cs:List Cls) (gs:List Sig) (v2:Value) (l:List (Bod×Value×Value)) (cl me:Int) (loc:L_) (hll:l.length<=7) (hloc:loc.length<=5) (hs:s.size<=2000) (hbi:b≠bi) (hbb:b<base) (hbib:bi<base) (hbt:base<=top) (hR:RdB w b s i false false bi vc vt) (hH:dh w base top bi cs gs v2) (hBd:tA w top v2 l) (htw:top<=w.heap.size):
  Calls prog 80 #[.pointer (some ⟨b,0,none⟩),.agg #[.int .i64 cl,.int .i64 me,.string ⟨loc.toArray⟩,S_,S_]] w λen w'=>en= .returned (.tuple #[])/\But (λk=>k=b\/k=bi\/top<=k) w w'/\
   ∃j bad vc' vt',RdB w' b s j bad false bi vc' vt'/\
    ((bad=false/\ ∃is vk v2',eD s cs gs.length loc.length 100 [] i= .ok (is,j)/\dh w' base top bi cs gs v2'/\tA w' top v2' (l++ [(⟨cl,me,loc,is⟩,vk,S_)]))\/(bad=true/\eD s cs gs.length loc.length 100 [] i= .error j)):=by
 obtain⟨i0,e0,f3,f4,g0⟩:=info_parts F8;have c3:=hR.c3;have c5:=hR.c5;have c6:=hR.c6;have f5:=hR.fz 5;have f6:=hR.fz 6;have blt:=hR.lt
 go_in
 go_wp2_with fail;have b9:RdB ((w.setCell ⟨b,5,none⟩ S_).setCell ⟨b,6,none⟩ S_) b s i false false bi S_ S_:=(hR.set5 _).set6 _;have b4:But (· =b) w ((w.setCell ⟨b,5,none⟩ S_).setCell ⟨b,6,none⟩ S_):=(aj _ _ _ _).trans (aj _ _ _ _);have f1:((w.setCell ⟨b,5,none⟩ S_).setCell ⟨b,6,none⟩ S_).heap.size=w.heap.size:=by rw[aU,aU]
 generalize ((w.setCell ⟨b,5,none⟩ S_).setCell ⟨b,6,none⟩ S_)=w0 at*;have a3:But (· =b) w (w0.alloc (.cells #[.int .i64 cl,.int .i64 me,.string ⟨loc.toArray⟩,S_,S_] 52)):=b4.trans (aa _ _ _);have b2:bi<base:=hbib;refine(Bc b s i false bi _ _ base top cs gs v2 loc.length hloc hs hbi hbb (b9.alloc _) (hH.but a3 (λh=>hbi h.symm) (λk h=>by omega))).mono ?_;rintro en w1 ⟨rfl,a4,j,bad,g6,O,T⟩
 have G:w1.heap[w.heap.size]?=some (.cells #[.int .i64 cl,.int .i64 me,.string ⟨loc.toArray⟩,S_,S_] 52):=by
  rw[a4.block _ (by simp;omega) (by omega)];exact aB f1 _
 have D:But (· =b) w w1:=a3.trans a4;have e2:=O.c2;clear c3 c5 c6 f5 f6;obtain⟨rfl,is,d,F,e1,m⟩ | ⟨rfl,d⟩:=T
 .have HC:Hid (eD s cs gs.length loc.length 100 [] i= .ok (is,j+1)):=d;obtain⟨ak,capk,rfl⟩:=ay m;have HD:Hid (pk s j=46):=bJ (by rw[F];rfl);clear d F;go_wp2_with fail;refine(A6 b s j false false bi _ _ _ 46 hs O (by decide) HD.out).mono ?_;rintro en r ⟨rfl,J,P⟩
  have e:r.heap[w.heap.size]?=some (.cells #[.int .i64 cl,.int .i64 me,.string ⟨loc.toArray⟩,S_,S_] 52):=by
   rw[J.block _ (ae G) (by omega)];exact G
  have a0:But (· =b) w r:=D.trans J
  have b1:r.ownsRow top 144 4 (.slice ak is.length capk) is.length (dx is):=by
   have:=ag m J (λg hg h=>by have:=aw m g hg;simp at this;omega);refine⟨this.1,?_⟩;obtain h| ⟨g,cp,cur,I,h2,h3⟩:=this.2
   .exact Or.inl h
   .exact Or.inr ⟨g,cp,cur,I,by simp at h2;omega,h3⟩
  have z: ∀g,(Value.slice ak is.length capk).ownBlock=some g->w.heap.size<g:=λg hg=>by have:=aw m g hg;simp at this;omega
  have e3:=aY b1;have e5:=P.c5;have e6:=P.c6;have k3:=ce3 e;have k4:=ce4 e;have g4:r.frozen? ⟨w.heap.size,3,none⟩=false:=bG r _ 3 _ _ e;have g5:r.frozen? ⟨w.heap.size,4,none⟩=false:=bG r _ 4 _ _ e;have a1:b≠w.heap.size:=by omega
  have b3:w.heap.size≠b:=by omega
  clear e2;go_wp2_with fail;have c:((r.setCell ⟨w.heap.size,3,none⟩ (.slice ak is.length capk)).setCell ⟨w.heap.size,4,none⟩ S_).heap[w.heap.size]?=some (.cells #[.int .i64 cl,.int .i64 me,.string ⟨loc.toArray⟩,.slice ak is.length capk,S_] 52):=cQ _ _ 4 _ _ _ (cQ r _ 3 _ _ _ e);have L:But (· =w.heap.size) r ((r.setCell ⟨w.heap.size,3,none⟩ (.slice ak is.length capk)).setCell ⟨w.heap.size,4,none⟩ S_):=(aj _ _ _ _).trans (aj _ _ _ _);generalize ((r.setCell ⟨w.heap.size,3,none⟩ (.slice ak is.length capk)).setCell ⟨w.heap.size,4,none⟩ S_)=W at*
  have Q:RdB W b s (j+1) false false bi (.slice ak is.length capk) S_:=P.but L a1;have M:But (· =b) w W:=a0.next L (λk hk h=>by omega);have b5:dh W base top bi cs gs v2:=hH.but M (λh=>hbi h.symm) (λk h=>by omega);have a5:tA W top v2 l:=hBd.but M (λk h=>by omega);have E:=ag b1 L (λg hg h=>by have:=z g hg;omega);obtain⟨f2,e8,f0,v0,v1,B,a6,b0,X⟩:=b5;obtain⟨C,a,rfl⟩:=ay hBd.own;have n:=a5.own;have A:=aY hBd.own;have e4:=Q.c4;have i2:=B.c2;have iz:=B.fz 2;have bltW:=Q.lt;have biltW:=B.lt;have gltW:=ae c;have k0:=ce0 c;have k1:=ce1 c;have k2:=ce2 c;have g1:=ce3 c;have g2:=ce4 c
  have ab:(Value.slice C l.length a).ownBlock≠some b:=λh=>by have:=aw n _ h;omega
  have abi:(Value.slice C l.length a).ownBlock≠some bi:=λh=>by have:=aw n _ h;omega
  have agk:(Value.slice C l.length a).ownBlock≠some w.heap.size:=λh=>by have:=A _ h;omega
  have c8:But (λk=>(Value.slice C l.length a).ownBlock=some k) W W.drew:=aA _ _;refine aD (But (λk=>(Value.slice C l.length a).ownBlock=some k) W) 14 ?_
  iterate 12 (refine aF (v:=?_) rfl c8 ?_ ?_;rotate_left;(focus (intro wS h;have q0:=((h.cell (p:=⟨b,4,none⟩) bltW ab).trans e4);have q1:=((h.cell (p:=⟨bi,2,none⟩) biltW abi).trans i2);have q2:=((h.cell (p:=⟨w.heap.size,0,none⟩) gltW agk).trans k0);have q3:=((h.cell (p:=⟨w.heap.size,1,none⟩) gltW agk).trans k1);have q4:=((h.cell (p:=⟨w.heap.size,2,none⟩) gltW agk).trans k2);have q5:=((h.cell (p:=⟨w.heap.size,3,none⟩) gltW agk).trans g1);have q6:=((h.cell (p:=⟨w.heap.size,4,none⟩) gltW agk).trans g2);clear h;go_simp;try rfl));dsimp only[Act.put];try simp only[bW])
  refine au rfl ?_;intro KS hKS;go_simp;refine hKS.out _ _ (λ_=>(aa _ _ _).trans (aA _ _)) ?_;clear hKS KS;refine au rfl ?_;intro KS hKS
  refine step_append_lies _ (by rfl) _ _ _ (by rfl) top 52 i0 _ 5 80 Tryz.underlying42 e0 f3 f4 g0 rfl (by omega) _ l.length (da l) (by rfl) ((n.alloc _).drew)
     ⟨W.heap.size,0,none⟩ 1 1 [.int .i64 cl,.int .i64 me,.string ⟨loc.toArray⟩,.slice ak is.length capk,S_] (by rfl) (by rfl) (iu (cs:=#[.int .i64 cl,.int .i64 me,.string ⟨loc.toArray⟩,.slice ak is.length capk,S_]) (t:=52) (fr:=(0,0)) (aO W _)) (by simp[Value.oneCell'])
     (by omega) (by unfold maxLen;omega) (by omega) (by simp;omega) (W.heap.size+1) (by simp) ?_
  intro gg cap3 Z f S c9 e7;have q:But (λk=>(Value.slice C l.length a).ownBlock=some k) W Z:=((aa _ _ _).trans (aA _ _)).trans (a8 S);refine hKS.out _ _ (λ_=>q) ?_;clear hKS KS;have y0:=(q.cell (p:=⟨bi,2,none⟩) biltW abi).trans i2;have y1:=(q.frozen (p:=⟨bi,2,none⟩) biltW abi).trans iz;refine au rfl ?_;intro KS hKS;go_simp;refine hKS.out _ _ nofun ?_;clear hKS KS;refine au rfl ?_;intro KS hKS;go_simp;refine hKS.out _ _ nofun ?_;clear hKS KS;refine au rfl ?_;intro KS hKS;go_simp;refine hKS.out _ _ nofun ?_;clear hKS KS;refine aI rfl ?_;have g3:=aw f gg rfl;have b8:RdB (Z.setCell ⟨bi,2,none⟩ (.slice (some ⟨gg,0,none⟩) (l.length+1) cap3)) b s (j+1) false false bi (.slice ak is.length capk) S_:=(Q.but q ab).but (aj _ _ _ _) hbi
  have b6:ImB (Z.setCell ⟨bi,2,none⟩ (.slice (some ⟨gg,0,none⟩) (l.length+1) cap3)) bi v0 v1 (.slice (some ⟨gg,0,none⟩) (l.length+1) cap3):=(B.but q abi).set2 _;have y:But (λk=>k=bi\/(Value.slice C l.length a).ownBlock=some k) W (Z.setCell ⟨bi,2,none⟩ (.slice (some ⟨gg,0,none⟩) (l.length+1) cap3)):=(q.mono (λ_ _ h=>Or.inr h)).next (aj _ _ _ _) (λ_ _ h=>Or.inl h);have b7:=ag f (aj Z bi 2 (.slice (some ⟨gg,0,none⟩) (l.length+1) cap3)) (λg hg h=>by have:=aw f g hg;omega);generalize (Z.setCell ⟨bi,2,none⟩ (.slice (some ⟨gg,0,none⟩) (l.length+1) cap3))=w4 at*
  have H: ∀g,g<W.heap.size->(Value.slice C l.length a).ownBlock≠some g->gg≠g:=λg hg hn h=>by
   obtain h'|h':=c9
   .exact hn (by rw[<-h];exact h')
   .omega
  go_wp2_with fail;go_end0;refine⟨rfl,(M.mono (λ_ _ h=>Or.inl h)).next y (λk hk h=> ?_),j+1,false,_,_,b8,Or.inl ⟨rfl,is,.slice ak is.length capk,.slice (some ⟨gg,0,none⟩) (l.length+1) cap3,HC.out,⟨f2,e8,f0,v0,v1,b6,?_,?_,X⟩,⟨?_,?_⟩⟩⟩
  .obtain h|h:=h
   .exact Or.inr (Or.inl h)
   .exact Or.inr (Or.inr (aw n _ h))
  .exact ag a6 y (λg hg h=>by
    have I:=aw a6 g hg;have h2:=X g (Or.inl hg);obtain h|h:=h
    .omega
    .have:=aw n _ h;omega)
  .exact ag b0 y (λg hg h=>by
    have I:=aw b0 g hg;have h2:=X g (Or.inr hg);obtain h|h:=h
    .omega
    .have:=aw n _ h;omega)
  .rw[mI,aN];exact b7
  .intro x Y;obtain Y|Y:=gz Y
   .obtain⟨I,h2,h3⟩:=a5.code x Y;refine⟨ag I y (λg hg h=> ?_),h2,λg hg h=> ?_⟩
    .have:=aw I g hg;obtain h|h:=h
     .omega
     .exact h3 g hg h
    .have h5:gg=g:=by simpa[Value.ownBlock]using h
     exact H g (aY I g hg) (h3 g hg) h5
   .simp at Y;subst Y;refine⟨ag E y (λg hg h=> ?_),rfl,λg hg h=> ?_⟩
    .have:=z g hg;obtain h|h:=h
     .omega
     .have:=A _ h;omega
    .have h5:gg=g:=by simpa[Value.ownBlock]using h
     refine H g (aY E g hg) (λh=> ?_) h5;have:=A _ h;have:=z g hg;omega
 .go_wp2_with fail;exact fY results80 rfl ⟨rfl,D.mono (λ_ _ h=>Or.inl h),j,true,_,_,O,Or.inr ⟨rfl,d⟩⟩
end
end
section
open Go Go.RowKit Sp
theorem xd (a d:Int) (c e:UInt8) (ha:a=c.toNat) (hd:d=e.toNat) (w:World):(convert 112 9 (.slice (some ⟨w.heap.size,0,none⟩) 2 2)).run prog (w.alloc (.cells #[.int .u8 a,.int .u8 d] 5))= .ok (.string ⟨#[c,e]⟩) (w.alloc (.cells #[.int .u8 a,.int .u8 d] 5)):=by
 subst ha hd;exact EV c e w
theorem yl {s:ByteArray} {n i d j:Nat} (h:eB s n i= .ok (d,j)):j=i+1/\d<n/\i<s.size:=by
 unfold eB at h
 split at h
 .rename_i hd
  cases h
  have a:=mi.1 hd;exact⟨rfl,by omega,iw (by omega)⟩
 .cases h
theorem py (bs:List Bod) (x m:Int):(ia bs x m).isSome=decide (0<=gx bs x m):=by
 unfold gx
 cases ia bs x m with
 |none=>rfl
 |some k=>simp
def C3 (R:Except Nat (List Bod×Nat)) (b:Nat) (s:ByteArray) (bi base top:Nat) (cs:List Cls) (gs:List Sig) (w':World):Prop:=
 ∃j bad vc' vt',RdB w' b s j bad false bi vc' vt'/\
  ((bad=false/\ ∃l v2,R= .ok (l.map (·.1),j)/\l.length<=6/\dh w' base top bi cs gs v2/\tA w' top v2 l)\/(bad=true/\R= .error j))
section
variable (b:Nat) (s:ByteArray) (i:Nat) (bi:Nat) (vc vt:Value) (w:World)
theorem xe (base top:Nat) (cs:List Cls) (gs:List Sig) (hs:s.size<=2000) (hbi:b≠bi) (hbb:b<base) (hbib:bi<base) (hbt:base<=top) (hR:RdB w b s i false false bi vc vt) (hH:dh w base top bi cs gs S_) (htw:top<=w.heap.size):
  Calls prog 78 #[.pointer (some ⟨b,0,none⟩)] w λen w'=>en= .returned (.tuple #[])/\But (λk=>k=b\/k=bi\/top<=k) w w'/\
   C3 (iR s cs gs 6 [] i) b s bi base top cs gs w':=by
 obtain⟨R,b8⟩: ∃R,iR s cs gs 6 [] i=R:=⟨_,rfl⟩;rw[b8];have g5:Hid (iR s cs gs 6 [] i=R):=b8;clear b8;have c9:=hH.nc;have i4:=hH.ns
 go_in
 go_wp2_with (go_at_call 127;refine(bO b s i false false bi vc vt _ hs hR).mono ?_;rintro en w' ⟨rfl,nn,rfl⟩)
 go_loopg [2] 7 (λm c wr=> ∃(i':Nat) (bad':Bool) (vc vt:Value),c= .int .u8 (pk s i').toNat/\But (λk=>k=b\/k=bi\/top<=k) w wr/\RdB wr b s i' bad' false bi vc vt/\
  ((bad'=false/\ ∃f l v2,m=f+1/\f+List.length l=6/\iR s cs gs f (l.map (·.1)) i'=R/\dh wr base top bi cs gs v2/\tA wr top v2 l)\/(bad'=true/\m=0/\R= .error i')))
 case atStart=>exact⟨i,false,_,_,rfl,aH _ _ _,hR.drewN _,Or.inl ⟨rfl,6,[],_,rfl,rfl,g5.out,hH.but (aH (λ_=>False) _ _) (λh=>h) (λk h=>h.elim),⟨cR _ _ _ _,λx hx=>by cases hx⟩⟩⟩
 case round=>
  obtain⟨i',bad',vc,vt,rfl,hB,n,b0⟩:=hrel;have c1:=n.c1;have c2:=n.c2;have c4:=n.c4;have f1:=n.fz 1;have f2:=n.fz 2;obtain⟨rfl,f,l,v2,rfl,h5,f4,Q,G⟩ | ⟨rfl,rfl,rfl⟩:=b0
  .have HT:Hid (iR s cs gs f (l.map (·.1)) i'=R):=f4;have h6:f+l.length<=6:=by omega
   have h7:6<=f+l.length:=by omega
   have blt:=n.lt;clear f4 h5;obtain⟨a2,a3,rfl⟩:=ay G.own;obtain⟨j3,_,_,v0,v1,A,e6,T,j1⟩:=Q;obtain⟨a0,cap0,rfl⟩:=ay e6;obtain⟨a1,cap1,rfl⟩:=ay T;have d0:=A.c0;have d1:=A.c1;have d2:=A.c2;have bilt:=A.lt;have Q:dh wr base top bi cs gs (.slice a2 l.length a3):=⟨j3,c9,i4,_,_,A,e6,T,j1⟩
   by_cases hpe:(pk s i').toNat=59
   · --the end
    have hi:i'<s.size:=iw (by omega);have i3:(((pk s i').toNat:Int)!=59)=false:=by rw[bne_eq_false_iff_eq];omega
    have d:R= .ok (l.map (·.1),i'+1):=by rw[<-HT.out];cases f<;>simp[iR,hpe]
    subst d;clear HT hpe;go_wp2_with fail;go_end0;have b3:But (· =b) wr (wr.setCell ⟨b,1,none⟩ (.int .i64 ((i':Int)+1))):=aj _ _ _ _;exact⟨rfl,hB.next b3 (λ_ _ h=>Or.inl h),i'+1,false,_,_,n.inc,Or.inl ⟨rfl,l,_,rfl,by omega,Q.but b3 (λh=>hbi h.symm) (λk h=>by omega),G.but b3 (λk h=>by omega)⟩⟩
   .have i3:(((pk s i').toNat:Int)!=59)=true:=by rw[bne_iff_ne];omega
    have y:Hid (¬(pk s i').toNat=59):=hpe;clear hpe
    cases f with
    |zero=>
     have d:R= .error i':=by rw[<-HT.out];simp[iR,y.out]
     subst d;have c8:(6:Int)<=(l.length:Int):=by omega
     clear HT;go_wp2_with fail;exact fY results78 rfl ⟨rfl,hB.next (aj _ _ _ _) (λ_ _ h=>Or.inl h),i',true,_,_,n.set2 true,Or.inr ⟨rfl,rfl⟩⟩
    |succ f=>
     have c8: ¬(6:Int)<=(l.length:Int):=by omega
     go_wp2_with fail;refine(gH b s i' false bi vc vt _ _ cs.length rfl c9 hs n).mono ?_;rintro en w1 ⟨b2,xv,j,bad,rfl,X,a⟩;have b4:But (λk=>k=b\/k=bi\/top<=k) w w1:=hB.next b2 (λ_ _ h=>Or.inl h);have e2:=X.c2;have e4:=X.c4;have b5:=A.but b2 (λh=>hbi h.symm);clear c1 c2 c4 f1 f2 d0 d1 d2;have d0:=b5.c0;have d1:=b5.c1;obtain⟨rfl,x,rfl,k3,hx⟩ | ⟨rfl,hx⟩:=a
     case inr=>
      have d:R= .error j:=by rw[<-HT.out];simp[iR,y.out,hx]
      subst d;clear HT hx;go_wp2_with fail;exact fY results78 rfl ⟨rfl,b4,j,true,_,_,X,Or.inr ⟨rfl,rfl⟩⟩
     have HX:Hid (fj s cs.length i'= .ok (x,j)):=hx;clear hx;go_wp2_with fail;refine(dD b s j false bi vc vt _ _ gs.length rfl hs X).mono ?_;rintro en w2 ⟨e3,mv,p,bad,rfl,v,a⟩;have D:But (· =b) wr w2:=b2.trans e3;have a4:But (λk=>k=b\/k=bi\/top<=k) w w2:=hB.next D (λ_ _ h=>Or.inl h);have S:=b5.but e3 (λh=>hbi h.symm);clear e2 e4 d0 d1;have e1:=v.c1;have e2:=v.c2;have e4:=v.c4;have g1:=v.fz 1;have g2:=v.fz 2;have d0:=S.c0;have d1:=S.c1;obtain⟨rfl,m,rfl,i0,hm⟩ | ⟨rfl,hm⟩:=a
     case inr=>
      have d:R= .error p:=by rw[<-HT.out];simp[iR,y.out,HX.out,hm]
      subst d;clear HT hm;go_wp2_with fail;exact fY results78 rfl ⟨rfl,a4,p,true,_,_,v,Or.inr ⟨rfl,rfl⟩⟩
     have HM:Hid (eB s gs.length j= .ok (m,p)):=hm;obtain⟨f0,i2,j7⟩:=yl hm;clear hm;have h3:w2.ownsRow top 52 5 (.slice a2 l.length a3) l.length (da l):=ag G.own D (λg hg h=>by have:=aw G.own g hg;omega);go_wp2_with fail;refine(tz top bi _ _ _ l (x:Int) (m:Int) _ (by omega) S h3).mono ?_;rintro en wx ⟨rfl,f5⟩;rw[f5];clear f5 wx;have B:=py (l.map (·.1)) (x:Int) (m:Int);obtain⟨oi,M⟩: ∃oi,gx (l.map (·.1)) (x:Int) (m:Int)=oi:=⟨_,rfl⟩;rw[M]at B⊢;clear M
     by_cases M:0<=oi
     · --there is one already
      have O:(ia (l.map (·.1)) (x:Int) (m:Int)).isSome=true:=by rw[B];simpa using M
      have d:R= .error j:=by rw[<-HT.out];simp only[iR,if_neg y.out,HX.out,HM.out,if_pos O]
      subst d;have f3:(p:Int)-1=(j:Int):=by omega
      have g4:Hid ((p:Int)-1=(j:Int)):=f3;have k0:(1:Int)<=(p:Int):=by omega
      have k1:(p:Int)<=3000:=by omega
      clear HT O B f3 f0;go_wp2_with fail;refine fY results78 rfl ⟨rfl,?_,j,true,vc,vt,?_,Or.inr ⟨rfl,rfl⟩⟩
      .exact(a4.next (aj _ _ _ _) (λ_ _ h=>Or.inl h)).next (aj _ _ _ _) (λ_ _ h=>Or.inl h)
      .rw[g4.out];exact(v.set1 j).set2 true
     .have L: ¬(ia (l.map (·.1)) (x:Int) (m:Int)).isSome=true:=by rw[B];simpa using M
      have e0:Hid (¬(ia (l.map (·.1)) (x:Int) (m:Int)).isSome=true):=L;clear L B f0;go_wp2_with fail;refine(iD b s p false bi vc vt _ _ _ _ 3 cs.length 58 rfl rfl rfl hs c9 (by omega) (by decide) v).mono ?_;rintro en w3 ⟨e5,o,q,bad,rfl,i5,Y,a⟩;have E:But (· =b) wr w3:=D.trans e5;have a5:But (λk=>k=b\/k=bi\/top<=k) w w3:=hB.next E (λ_ _ h=>Or.inl h);have h2:=S.but e5 (λh=>hbi h.symm);clear e1 e2 e4 g1 g2 d0 d1;have e2:=Y.c2;have e4:=Y.c4;have d1:=h2.c1;obtain⟨rfl,t,rfl,ht⟩ | ⟨rfl,ht⟩:=a
      case inr=>
       have d:R= .error q:=by rw[<-HT.out];simp only[iR,if_neg y.out,HX.out,HM.out,if_neg e0.out,ht]
       subst d;clear HT ht;go_wp2_with fail;exact fY results78 rfl ⟨rfl,a5,q,true,_,_,Y,Or.inr ⟨rfl,rfl⟩⟩
      have g6:Hid (tys s cs.length 58 3 [] p= .ok (t,q)):=ht;have j0:=fL ht;simp only[List.length_nil,Nat.add_zero]at j0;clear ht;have b9:=aG i2;have b6:=ag T E (λg hg h=>by have:=aw T g hg;omega);obtain⟨gS,rfl,h8,h9,I⟩:=aE b6 (by omega);have e7:=I _ _ (kM b9);clear I;have i1:(m:Int)<(gs.length:Int):=by omega
      have k2:(x:Int)<4:=by omega
      obtain⟨arg,H⟩: ∃arg:UInt8,gs[m].arg=arg:=⟨_,rfl⟩
      have b1:Hid (ib gs m=arg):=by
       show ib gs m=arg
       unfold ib;rw[b9];exact H
      rw[H]at e7;clear H b9;obtain⟨cx,J⟩: ∃cx:UInt8,UInt8.ofNat (65+x)=cx:=⟨_,rfl⟩
      have e8:(65+(x:Int))=(cx.toNat:Int):=by
       rw[<-J,UInt8.toNat_ofNat'];omega
      have g0:Hid ((65+(x:Int))=(cx.toNat:Int)):=e8;have f6:Hid (UInt8.ofNat (65+x)=cx):=J;have h4:=xd (65+(x:Int)) (arg.toNat:Int) cx arg g0.out rfl;have i6:(⟨#[cx,arg]⟩:ByteArray).size+(⟨t.toArray⟩:ByteArray).size<=1000:=by show 2+t.toArray.size<=1000;simp;omega
      clear e8 J;go_wp2_with fail;rw[show(⟨#[cx,arg]⟩:ByteArray)++⟨t.toArray⟩=⟨(cx::arg::t).toArray⟩from db [cx,arg] t];have F:But (· =b) wr (w3.alloc (.cells #[.int .u8 (65+(x:Int)),.int .u8 arg.toNat] 5)):=E.trans (aa _ _ _);have j5:=hB.size;have j2:=a5.size;refine(su b s q bi _ _ _ base top cs gs _ l (x:Int) (m:Int) (cx::arg::t) (by omega) (by simp;omega) hs hbi hbb hbib hbt (Y.alloc _) (Q.but F (λh=>hbi h.symm) (λk h=>by omega)) (G.but F (λk h=>by omega)) (by simp;omega)).mono ?_;rintro en w4 ⟨rfl,g7,j4,C,k4,k5,b7,a⟩;have g3:Hid ((C=false/\ ∃is vk Z,eD s cs gs.length (cx::arg::t).length 100 [] q= .ok (is,j4)/\dh w4 base top bi cs gs Z/\tA w4 top Z (l++ [(⟨x,m,cx::arg::t,is⟩,vk,S_)]))\/(C=true/\eD s cs gs.length (cx::arg::t).length 100 [] q= .error j4)):=a
      have a6:But (λk=>k=b\/k=bi\/top<=k) w w4:=(hB.next F (λ_ _ h=>Or.inl h)).trans g7;clear a e2 e4 d1 e7 h4;go_wp2_with (go_at_call 127;refine(bO b s j4 C false bi _ _ _ hs b7).mono ?_;rintro en w' ⟨rfl,n3,rfl⟩)
      have P: ∀r,eD s cs gs.length (cx::arg::t).length 100 [] q=r->R=match r with
        | .error e=> .error e
        | .ok (is,z)=>iR s cs gs f (l.map (·.1)++ [⟨x,m,cx::arg::t,is⟩]) z:=by
       intro r hr;rw[<-HT.out];simp only[iR,if_neg y.out,HX.out,HM.out,if_neg e0.out,g6.out,b1.out,f6.out];rw[show(cx::arg::t).length=t.length+2 from rfl]at hr;rw[hr];obtain e| ⟨is,z⟩:=r<;>rfl
      obtain⟨rfl,is,vk,Z,hc,h1,h0⟩ | ⟨rfl,hc⟩:=g3.out
      .go_roundg (f+1)
       case measure=>omega
       case rel=>
        refine⟨j4,false,_,_,rfl,a6.next (aH (λ_=>False) _ _) (λ_ _ h=>h.elim),b7.drewN _,Or.inl ⟨rfl,f,_,Z,rfl,by simp;omega,?_,h1.but (aH (λ_=>False) _ _) (λh=>h) (λk h=>h.elim),h0.but (aH (λ_=>False) _ _) (λk h=>h.elim)⟩⟩;rw[List.map_append];exact(P _ hc).symm
      .go_roundg 0
       case measure=>omega
       case rel=>exact⟨j4,true,_,_,rfl,a6.next (aH (λ_=>False) _ _) (λ_ _ h=>h.elim),b7.drewN _,Or.inr ⟨rfl,rfl,P _ hc⟩⟩
  .go_wp2_with fail;go_end0;exact⟨rfl,hB,i',true,_,_,n,Or.inr ⟨rfl,rfl⟩⟩
end
theorem dV {w:World} {base base' e size n:Nat} {v:Value} {xs:List Value} (h:w.ownsRow base e size v n xs) (hb:base'<=base):w.ownsRow base' e size v n xs:=by
 refine⟨h.1,?_⟩;obtain h2| ⟨g,cap,cur,h1,h2,h3⟩:=h.2
 .exact Or.inl h2
 .exact Or.inr ⟨g,cap,cur,h1,by omega,h3⟩
def cH (w:World) (bi:Nat) (im:Img):Prop:=
 ∃v0 v1 v2 l,ImB w bi v0 v1 v2/\w.ownsRow 0 203 2 v0 im.zq.length (dw im.zq)/\w.ownsRow 0 129 2 v1 im.zx.length (dj im.zx)/\
  w.ownsRow 0 52 5 v2 l.length (da l)/\l.map (·.1)=im.zj/\
  ∀x∈l,w.ownsRow 0 144 4 x.2.1 x.1.code.length (dx x.1.code)/\x.2.2= S_
theorem cH.but {w w':World} {bi:Nat} {im:Img} (h:cH w bi im) (hb:B_ w w'):cH w' bi im:=by
 obtain⟨v0,v1,v2,l,d,a,b,c,hl,hc⟩:=h;exact⟨v0,v1,v2,l,d.but hb (λh=>h),ag a hb (λ_ _ h=>h),ag b hb (λ_ _ h=>h),ag c hb (λ_ _ h=>h),hl,λx hx=>⟨ag (hc x hx).1 hb (λ_ _ h=>h),(hc x hx).2⟩⟩
def sw (R:Except Nat Img):Int:=match R with
 | .ok _=> -1
 | .error j=>j
def Bd (R:Except Nat Img) (bi:Nat) (w':World):Prop:=match R with
 | .ok im=>cH w' bi im
 | .error _=>True
section
variable (s:ByteArray) (w:World)
theorem Be (hs:s.size<=2000):
  Calls prog 52 #[.string s,.bool false] w λen w'=>en= .returned (.tuple #[.pointer (some ⟨w.heap.size,0,none⟩),.int .i64 (sw (gP s))])/\B_ w w'/\Bd (gP s) w.heap.size w':=by
 obtain⟨R,Y⟩: ∃R,gP s=R:=⟨_,rfl⟩;rw[Y];have b:Hid (gP s=R):=Y;clear Y
 go_in
 go_wp2_with fail;have e7:RdB ((w.alloc (.cells #[S_,S_,S_] 44)).alloc (.cells #[.string s,.int .i64 0,.bool false,.bool false,.pointer (some ⟨w.heap.size,0,none⟩),S_,S_] 140)) (w.heap.size+1) s 0 false false w.heap.size S_ S_:=aB (by simp) _;have e0:ImB ((w.alloc (.cells #[S_,S_,S_] 44)).alloc (.cells #[.string s,.int .i64 0,.bool false,.bool false,.pointer (some ⟨w.heap.size,0,none⟩),S_,S_] 140)) w.heap.size S_ S_ S_:=ImB.but (w:=w.alloc (.cells #[S_,S_,S_] 44)) (aO w _) (aa (λ_=>False) _ _) (λh=>h)
 have b8:B_ w ((w.alloc (.cells #[S_,S_,S_] 44)).alloc (.cells #[.string s,.int .i64 0,.bool false,.bool false,.pointer (some ⟨w.heap.size,0,none⟩),S_,S_] 140)):=(aa _ _ _).trans (aa _ _ _);have g3:((w.alloc (.cells #[S_,S_,S_] 44)).alloc (.cells #[.string s,.int .i64 0,.bool false,.bool false,.pointer (some ⟨w.heap.size,0,none⟩),S_,S_] 140)).heap.size=w.heap.size+2:=by simp
 generalize ((w.alloc (.cells #[S_,S_,S_] 44)).alloc (.cells #[.string s,.int .i64 0,.bool false,.bool false,.pointer (some ⟨w.heap.size,0,none⟩),S_,S_] 140))=w0 at*;have B:w.heap.size+1≠w.heap.size:=by omega
 refine(pu (w.heap.size+1) s 0 false w.heap.size _ _ w0 hs B e7 e0).mono ?_;rintro en w1 ⟨rfl,a4,e⟩;have E:B_ w w1:=b8.next a4 (λk hk h=>by omega);have f6:=a4.size;rcases hc1:dR s 4 [] 0 with j| ⟨cs,j⟩
 .rw[hc1]at e;simp only at e;have n:=e.c1;have p:=e.c2;have M:=e.c4;have a:R= .error j:=by rw[<-b.out];simp[gP,hc1]
  subst a;clear b;go_wp2_with fail
  go_quiet (fail)
  go_wp2
  go_ret2
  exact⟨rfl,E.next (aH (λ_=>False) _ _) (λ_ _ h=>h),trivial⟩
 rw[hc1]at e;obtain⟨T,v0,e3,S⟩:=e;have m:Hid (dR s 4 [] 0= .ok (cs,j)):=hc1;obtain⟨b4,i⟩:=ny hc1;clear hc1;obtain⟨a0,cap0,rfl⟩:=ay S;have n:=T.c1;have p:=T.c2;go_wp2_with fail;refine(F6 (w.heap.size+1) s j false w.heap.size _ _ w1 a0 cs.length cap0 i hs B T e3).mono ?_;rintro en Z ⟨rfl,O,f⟩;have F:B_ w Z:=E.next O (λk hk h=>by omega);have g0:=O.size;clear n p;rcases hc2:fk s cs.length 3 [] j with j2| ⟨gs,j2⟩
 .rw[hc2]at f;simp only at f;have n:=f.c1;have p:=f.c2;have M:=f.c4;have a:R= .error j2:=by rw[<-b.out];simp[gP,m.out,hc2]
  subst a;clear b;go_wp2_with fail
  go_quiet (fail)
  go_wp2
  go_ret2
  exact⟨rfl,F.next (aH (λ_=>False) _ _) (λ_ _ h=>h),trivial⟩
 rw[hc2]at f;obtain⟨X,v1,e5,b2⟩:=f;have v:Hid (fk s cs.length 3 [] j= .ok (gs,j2)):=hc2;have J:=lC hc2;clear hc2;have I:=ag S O (λg hg h=>by have:=aw S g hg;omega)
 have c8:dh Z (w.heap.size+2) Z.heap.size w.heap.size cs gs S_:=⟨b4,i,by simpa using J,_,_,e5,dV I (by omega),dV b2 (by omega),λg hg=>by
  obtain hg|hg:=hg
  .exact aY I g hg
  .exact aY b2 g hg⟩
 have n:=X.c1;have p:=X.c2;go_wp2_with fail;refine(xe (w.heap.size+1) s j2 w.heap.size _ _ Z (w.heap.size+2) Z.heap.size cs gs hs B (by omega) (by omega) (by omega) X c8 (bP _)).mono ?_;rintro en w3 ⟨rfl,a5,j3,b5,g5,g7,d,c⟩;have G:B_ w w3:=F.next a5 (λk hk h=>by omega);have g1:=a5.size;clear n p;obtain⟨rfl,l,v2,C,f5,Q,a6⟩ | ⟨rfl,C⟩:=c
 case inr=>
  have n:=d.c1;have p:=d.c2;have M:=d.c4;have a:R= .error j3:=by rw[<-b.out];simp[gP,m.out,v.out,C]
  subst a;clear b;go_wp2_with fail
  go_quiet (fail)
  go_wp2
  go_ret2
  exact⟨rfl,G.next (aH (λ_=>False) _ _) (λ_ _ h=>h),trivial⟩
 have z:Hid (iR s cs gs 6 [] j2= .ok (l.map (·.1),j3)):=C;clear C;obtain⟨a2,a1,rfl⟩:=ay a6.own;obtain⟨_,_,_,u0,u1,b1,b3,e8,f4⟩:=Q;obtain⟨b0,capb0,rfl⟩:=ay b3;have Q:dh w3 (w.heap.size+2) Z.heap.size w.heap.size cs gs (.slice a2 l.length a1):=⟨b4,i,by simpa using J,_,_,b1,b3,e8,f4⟩;have n:=d.c1;have p:=d.c2;have M:=d.c4;have d0:=b1.c0;go_wp2_with fail;refine(iD (w.heap.size+1) s j3 false w.heap.size _ _ w3 _ _ _ 3 cs.length 58 rfl rfl rfl hs i (by omega) (by decide) d).mono ?_;rintro en w4 ⟨A,o,j4,b6,rfl,f2,q,c⟩;have H:B_ w w4:=G.next A (λk hk h=>by omega);have g2:=A.size;clear n p M d0
 obtain⟨rfl,t,rfl,ht⟩ | ⟨rfl,ht⟩:=c
 case inr=>
  have n:=q.c1;have p:=q.c2;have M:=q.c4;have a:R= .error j4:=by rw[<-b.out];simp[gP,m.out,v.out,z.out,ht]
  subst a;clear b;go_wp2_with fail
  go_quiet (fail)
  go_wp2
  go_ret2
  exact⟨rfl,H.next (aH (λ_=>False) _ _) (λ_ _ h=>h),trivial⟩
 have L:Hid (tys s cs.length 58 3 [] j3= .ok (t,j4)):=ht;have f3:=fL ht;simp only[List.length_nil,Nat.add_zero]at f3;clear ht;have n:=q.c1;have p:=q.c2;go_wp2_with fail;refine(su (w.heap.size+1) s j4 w.heap.size _ _ w4 (w.heap.size+2) Z.heap.size cs gs _ l (-1) (-1) t (by omega) (by omega) hs B (by omega) (by omega) (by omega) q (Q.but A (by omega) (λk h=>by omega)) (a6.but A (λk h=>by omega)) (by omega)).mono ?_;rintro en w5 ⟨rfl,b9,j5,b7,g6,h0,r,c⟩;have y:B_ w w5:=H.next b9 (λk hk h=>by omega);clear n p;obtain⟨rfl,is,vk,g4,D,c9,P⟩ | ⟨rfl,D⟩:=c
 case inr=>
  have n:=r.c1;have p:=r.c2;have M:=r.c4;have a:R= .error j5:=by rw[<-b.out];simp[gP,m.out,v.out,z.out,L.out,D]
  subst a;clear b;go_wp2_with fail
  go_quiet (fail)
  go_wp2
  go_ret2
  exact⟨rfl,y.next (aH (λ_=>False) _ _) (λ_ _ h=>h),trivial⟩
 have a3:Hid (eD s cs gs.length t.length 100 [] j4= .ok (is,j5)):=D;clear D;have n:=r.c1;have p:=r.c2;have M:=r.c4
 by_cases hend:(j5:Int)<(s.size:Int)
 .have a:R= .error j5:=by rw[<-b.out];simp[gP,m.out,v.out,z.out,L.out,a3.out];omega
  subst a;clear b;go_wp2_with fail
  go_quiet (fail)
  go_wp2
  go_ret2
  exact⟨rfl,y.next (aH (λ_=>False) _ _) (λ_ _ h=>h),trivial⟩
 .have a:R= .ok ⟨cs,gs,l.map (·.1)++ [⟨-1,-1,t,is⟩]⟩:=by rw[<-b.out];simp[gP,m.out,v.out,z.out,L.out,a3.out];omega
  subst a;clear b;obtain⟨_,_,_,x0,x1,e6,f0,f1,_⟩:=c9;go_wp2_with fail
  go_ret2
  refine⟨rfl,y,?_⟩;exact⟨_,_,_,_,e6,dV f0 (by omega),dV f1 (by omega),dV P.own (by omega),by simp,λx hx=>⟨dV (P.code x hx).1 (by omega),(P.code x hx).2.1⟩⟩
end
def Ee (w:World) (bi:Nat) (im:Img):Prop:=
 ∃v0 v1 v2 l,ImB w bi v0 v1 v2/\w.ownsRow 0 203 2 v0 im.zq.length (dw im.zq)/\w.ownsRow 0 129 2 v1 im.zx.length (dj im.zx)/\
  w.ownsRow 0 52 5 v2 l.length (da l)/\l.map (·.1)=im.zj
theorem cH.hds {w:World} {bi:Nat} {im:Img} (h:cH w bi im):Ee w bi im:=by
 obtain⟨v0,v1,v2,l,d,a,b,c,hl,_⟩:=h;exact⟨v0,v1,v2,l,d,a,b,c,hl⟩
theorem nF (bi:Nat) (im:Img) (x m:Int) (w:World) (hI:Ee w bi im) (hw:WfC im.zq) (hn:im.zq.length<=4) (hbl:im.zj.length<=7) (hx0: -1<=x) (hx:x<im.zq.length):
  Calls prog 81 #[.pointer (some ⟨bi,0,none⟩),.int .i64 x,.int .i64 m] w λen w'=>en= .returned (.int .i64 (bM im.zq im.zj m 5 x))/\w'=w:=by
 obtain⟨R,h⟩: ∃R,bM im.zq im.zj m 5 x=R:=⟨_,rfl⟩;rw[h];have B:Hid (bM im.zq im.zj m 5 x=R):=h;clear h;obtain⟨v0,v1,v2,l,k,G,Q,L,hl⟩:=hI;obtain⟨cs,gs,bs⟩:=im;simp only at*;subst hl;have C:l.length<=100:=by simp at hbl;omega
 obtain⟨a0,cap0,rfl⟩:=ay G;have d0:=k.c0
 go_in
 go_wp2_with fail
 go_loopg [1,7] 5 (λmm xs ks wr=> ∃(xv:Int) (kn:Nat),xs= .int .i64 xv/\ks= .int .i64 kn/\kn<=5/\5<=kn+mm/\kn+mm<=5/\wr=w/\ -1<=xv/\xv<cs.length/\Hid (bM cs (l.map (·.1)) m mm xv=R))
 case atStart=>exact⟨x,0,rfl,rfl,by omega,by omega,by omega,rfl,hx0,hx,B⟩
 case round=>
  obtain⟨xv,kn,rfl,rfl,P,H,I,E,J,F,z⟩:=hrel;subst E
  by_cases hxn:0<=xv
  .cases gk with
   |zero=>
    have a:R= -1:=by rw[<-z.out];rfl
    subst a;have r: ¬(kn:Int)<=4:=by omega
    go_wp2_with fail;go_ret;exact⟨rfl,rfl⟩
   |succ f=>
    have r:(kn:Int)<=4:=by omega
    go_wp2_with fail;refine(tz 0 bi _ _ _ l xv m _ C k L).mono ?_;rintro en wx ⟨rfl,y⟩;rw[y];clear y wx
    have c:R=if 0<=gx (l.map (·.1)) xv m then gx (l.map (·.1)) xv m else bM cs (l.map (·.1)) m f (cU cs xv):=by
     rw[<-z.out,bM,if_neg (by omega)]
    have e:Hid (R=if 0<=gx (l.map (·.1)) xv m then gx (l.map (·.1)) xv m else bM cs (l.map (·.1)) m f (cU cs xv)):=c;clear c;obtain⟨oi,s⟩: ∃oi,gx (l.map (·.1)) xv m=oi:=⟨_,rfl⟩;rw[s]at e⊢;clear s
    by_cases ho:0<=oi
    .have a:R=oi:=by rw[e.out,if_pos ho]
     subst a;go_wp2_with fail;go_ret;exact⟨rfl,rfl⟩
    .have A:Hid (bM cs (l.map (·.1)) m f (cU cs xv)=R):=by show _=_;rw[e.out,if_neg ho]
     obtain⟨n,j⟩:=Int.eq_ofNat_of_zero_le hxn;have D:n<cs.length:=by omega
     have i:=aG D;obtain⟨g,rfl,M,O,b⟩:=aE G (by omega);have p:=b _ _ (nz i);have d:=j9 hw F hxn;have t:cU cs xv=cs[n].par:=by unfold cU;rw[j,jZ,i];rfl
     rw[t]at A d;have q:wr.cell? ⟨g,xv.toNat*2,none⟩=some (.int .i64 cs[n].par):=by rw[j,jZ];exact p
     obtain⟨pp,v⟩: ∃pp,cs[n].par=pp:=⟨_,rfl⟩;rw[v]at A d q;clear b p i t v j;go_wp2_with fail
     go_roundg f
     case measure=>omega
     case rel=>exact⟨pp,kn+1,rfl,by simp,by omega,by omega,by omega,rfl,d.1,d.2,A⟩
  .have a:R= -1:=by
    rw[<-z.out]
    cases gk with
    |zero=>rfl
    |succ f=>rw[bM,if_pos (by omega)]
   subst a
   by_cases r:(kn:Int)<=4
   .go_wp2_with fail;go_ret;exact⟨rfl,rfl⟩
   .go_wp2_with fail;go_ret;exact⟨rfl,rfl⟩
def qr (o:Option Nat):Int:=match o with
 |some p=>p
 |none=> -1
theorem Bf {cs:List Cls} {bs:List Bod} {c:List Ins} {k:Nat} (hk:k<c.length) (h:cy cs bs c.length c[k]=true) (hno: ∀j (hj:j<c.length),j<k->cy cs bs c.length c[j]=false):unl cs bs c=some c[k].pos:=by
 unfold unl
 have:c.find? (cy cs bs c.length)=some c[k]:=by
  rw[List.find?_eq_some_iff_getElem];exact⟨h,k,hk,rfl,λj hj=>by rw[hno j (by omega) hj];rfl⟩
 rw[this]
 rfl
theorem va {cs:List Cls} {bs:List Bod} {c:List Ins} (hno: ∀j (a:j<c.length),cy cs bs c.length c[j]=false):unl cs bs c=none:=by
 unfold unl
 have:c.find? (cy cs bs c.length)=none:=by
  rw[List.find?_eq_none];intro x b;obtain⟨j,a,rfl⟩:=List.getElem_of_mem b;rw[hno j a];decide
 rw[this]
 rfl
theorem tB (bi:Nat) (im:Img) (bd:Bod) (vk:Value) (w:World) (hI:cH w bi im) (hW:WfI im) (hbd:WfB im.zq im.zx bd) (hO:w.ownsRow 0 144 4 vk bd.code.length (dx bd.code)):
  Calls prog 53 #[.pointer (some ⟨bi,0,none⟩),.agg #[.int .i64 bd.cls,.int .i64 bd.meth,.string ⟨bd.zy.toArray⟩,vk,S_]] w λen w'=>en= .returned (.int .i64 (qr (unl im.zq im.zj bd.code)))/\B_ w w':=by
 obtain⟨R,q⟩: ∃R,unl im.zq im.zj bd.code=R:=⟨_,rfl⟩;rw[q];have z:Hid (unl im.zq im.zj bd.code=R):=q;clear q;obtain⟨ak,capk,rfl⟩:=ay hO;obtain⟨n,hn⟩: ∃n,bd.code.length=n:=⟨_,rfl⟩;rw[hn]at hO⊢;have D:Hid (bd.code.length=n):=hn;have A:=hbd.len;rw[hn]at A;clear hn
 go_in
 go_wp2_with fail;have G:B_ w (w.alloc (.cells #[.int .i64 bd.cls,.int .i64 bd.meth,.string ⟨bd.zy.toArray⟩,.slice ak n capk,S_] 52)):=aa _ _ _;have I:(w.alloc (.cells #[.int .i64 bd.cls,.int .i64 bd.meth,.string ⟨bd.zy.toArray⟩,.slice ak n capk,S_] 52)).heap[w.heap.size]?=some (.cells #[.int .i64 bd.cls,.int .i64 bd.meth,.string ⟨bd.zy.toArray⟩,.slice ak n capk,S_] 52):=aO _ _;generalize (w.alloc (.cells #[.int .i64 bd.cls,.int .i64 bd.meth,.string ⟨bd.zy.toArray⟩,.slice ak n capk,S_] 52))=w0 at*
 go_loopg [5] n (λmm ks wr=> ∃(k:Nat),ks= .int .i64 k/\k<=n/\k+mm<=n/\n<=k+mm/\B_ w0 wr/\Hid (∀j (hj:j<bd.code.length),j<k->cy im.zq im.zj bd.code.length bd.code[j]=false))
 case atStart=>exact⟨0,rfl,by omega,by omega,by omega,bf _ _,λj hj h=>absurd h (by omega)⟩
 case round=>
  obtain⟨k,rfl,T,Y,Z,t,F⟩:=hrel;have s:wr.heap[w.heap.size]?=some (.cells #[.int .i64 bd.cls,.int .i64 bd.meth,.string ⟨bd.zy.toArray⟩,.slice ak n capk,S_] 52):=t.kp I;have g3:=ce3 s;have g4:=ce4 s;have f:B_ w wr:=G.trans t;have S:=ae s
  by_cases hlt:k<n
  .have i:k<bd.code.length:=by rw[D.out];exact hlt
   have C:=aG i;have H:=ag hO f (λ_ _ h=>h);obtain⟨g,rfl,P,Q,c⟩:=aE H (by omega);have q0:=c _ _ (jk C);have q1:=c _ _ (jl C);have q2:=c _ _ (jm C);have q3:=c _ _ (jo C);have B:WfX im.zq im.zx.length bd.zy.length bd.code[k]:=hbd.code _ (bD i);obtain⟨X,E⟩: ∃X,bd.code[k]=X:=⟨_,rfl⟩
   have M:Hid (cy im.zq im.zj bd.code.length X=true->R=some X.pos):=λh=>by
    subst E;rw[<-z.out];exact Bf i h F.out
   have p:Hid (cy im.zq im.zj bd.code.length X=false-> ∀j (hj:j<bd.code.length),j<k+1->cy im.zq im.zj bd.code.length bd.code[j]=false):=λh j hj hjk=>by
    subst E;obtain h'|h':=gC j k
    .exact F.out j hj h'
    .have:j=k:=by omega
     subst this;exact h
   rw[E]at q0 q1 q2 q3 B;clear c C E;have a0:(k:Int)<(n:Int):=by omega
   by_cases h99:X.op.toNat=99
   .have t1:((X.op.toNat:Int)==99)=true:=by rw[aX];omega
    have t2:=tf X.op.toNat 106 (by omega);have L:=tf X.op.toNat 102 (by omega);have a1:X.a<im.zq.length:=B.cls (by omega);have v:Hid (X.op.toNat=99):=h99;clear h99;go_wp2_with fail;refine(nF bi im _ _ _ ((hI.but f).but (aa _ _ _)).hds hW.cls hW.nc hW.nb (by omega) (by omega)).mono ?_;rintro en wx ⟨rfl,m⟩;rw[m];clear m wx;obtain⟨fr,r⟩: ∃fr,bM im.zq im.zj (X.b:Int) 5 (X.a:Int)=fr:=⟨_,rfl⟩;rw[r];have x:Hid (bM im.zq im.zj (X.b:Int) 5 (X.a:Int)=fr):=r;clear r
    by_cases hf0:fr<0
    .have d:R=some X.pos:=M.out (by simp[cy,v.out,x.out,hf0]);subst d;go_wp2_with fail;go_ret;exact⟨rfl,f.trans (aa _ _ _)⟩
    .have l:Hid (cy im.zq im.zj bd.code.length X=false):=by show _=_;simp[cy,v.out,x.out];omega
     go_wp2_with fail
     go_roundg (n-(k+1))
     case measure=>omega
     case rel=>exact⟨k+1,by simp,by omega,by omega,by omega,t.trans (aa _ _ _),p.out l.out⟩
   .have t1:=tf X.op.toNat 99 (by omega)
    by_cases hj:X.op.toNat=106\/X.op.toNat=102
    .by_cases hb:(n:Int)<=(X.b:Int)
     .have d:R=some X.pos:=M.out (by
       have:bd.code.length<=X.b:=by rw[D.out];omega
       simp[cy,hj,this])
      subst d;obtain hj|hj:=hj
      .have t2:((X.op.toNat:Int)==106)=true:=by rw[aX];omega
       clear hj h99;go_wp2_with fail;go_ret;exact⟨rfl,f.trans (aa _ _ _)⟩
      .have t2:=tf X.op.toNat 106 (by omega);have L:((X.op.toNat:Int)==102)=true:=by rw[aX];omega
       clear hj h99;go_wp2_with fail;go_ret;exact⟨rfl,f.trans (aa _ _ _)⟩
     .have l:Hid (cy im.zq im.zj bd.code.length X=false):=by
       show _=_
       have O: ¬bd.code.length<=X.b:=by rw[D.out];omega
       simp[cy,h99,O]
      have e:=p.out l.out;obtain hj|hj:=hj
      .have t2:((X.op.toNat:Int)==106)=true:=by rw[aX];omega
       have y:Hid (∀j (hj:j<bd.code.length),j<k+1->cy im.zq im.zj bd.code.length bd.code[j]=false):=e;clear hj h99 e;go_wp2_with fail
       go_roundg (n-(k+1))
       case measure=>omega
       case rel=>exact⟨k+1,by simp,by omega,by omega,by omega,t.trans (aa _ _ _),y⟩
      .have t2:=tf X.op.toNat 106 (by omega);have L:((X.op.toNat:Int)==102)=true:=by rw[aX];omega
       have y:Hid (∀j (hj:j<bd.code.length),j<k+1->cy im.zq im.zj bd.code.length bd.code[j]=false):=e;clear hj h99 e;go_wp2_with fail
       go_roundg (n-(k+1))
       case measure=>omega
       case rel=>exact⟨k+1,by simp,by omega,by omega,by omega,t.trans (aa _ _ _),y⟩
    .have t2:=tf X.op.toNat 106 (by omega);have L:=tf X.op.toNat 102 (by omega)
     have l:Hid (cy im.zq im.zj bd.code.length X=false):=by
      show _=_
      simp[cy,h99];omega
     have y:Hid (∀j (hj:j<bd.code.length),j<k+1->cy im.zq im.zj bd.code.length bd.code[j]=false):=p.out l.out;clear hj h99;go_wp2_with fail
     go_roundg (n-(k+1))
     case measure=>omega
     case rel=>exact⟨k+1,by simp,by omega,by omega,by omega,t.trans (aa _ _ _),y⟩
  .have d:R=none:=by
    rw[<-z.out];exact va (λj hj=>F.out j hj (by rw[D.out]at hj;omega))
   subst d;go_wp2_with fail
   go_loopg [8] 0 (λmm ks wr'=>ks= .int .i64 0/\wr'=wr)
   case atStart=>exact⟨rfl,rfl⟩
   case round=>
    obtain⟨rfl,J⟩:=hrel;rw[J];go_wp2_with fail;go_ret;exact⟨rfl,f⟩
end
end Go.Proofs.YtpfkkmacakjmbaaGreatDoor
