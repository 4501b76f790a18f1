import Derived.Test.YtpfkkmacakjmbaaGreatDoorP05
import Derived.Test.YtpfkkmacakjmbaaGreatDoorP01
set_option maxRecDepth 100000
set_option maxHeartbeats 6400000
set_option linter.all false
namespace Go.Proofs.YtpfkkmacakjmbaaGreatDoor
open Proofs.Tryz
section
open Go Go.RowKit Sp
theorem yf {bs:List Bod} {x m:Int} {k:Nat} (hk:k<bs.length) (h:bs[k].cls=x/\bs[k].meth=m) (hno: ∀j (hj:j<bs.length),j<k-> ¬(bs[j].cls=x/\bs[j].meth=m)):gI bs x m=k:=by
 have:jC bs x m=some k:=by
  unfold jC;rw[List.findIdx?_eq_some_iff_getElem];refine⟨hk,by simp[h.1,h.2],λj hj=> ?_⟩;have:=hno j (by omega) hj;simpa using this
 simp[gI,this]
theorem yg {bs:List Bod} {x m:Int} (hno: ∀j (hj:j<bs.length),¬(bs[j].cls=x/\bs[j].meth=m)):gI bs x m= -1:=by
 have:jC bs x m=none:=by
  unfold jC;rw[List.findIdx?_eq_none_iff];intro b hb;obtain⟨j,hj,rfl⟩:=List.getElem_of_mem hb;simpa using hno j hj
 simp[gI,this]
theorem xj (base bi:Nat) (v0 v1 v2:Value) (l:List (Bod×Value×Value)) (x m:Int) (w:World) (hl:l.length<=100) (hI:ImB w bi v0 v1 v2) (hO:w.ownsRow base 52 5 v2 l.length (dL l)):
  Calls prog 132 #[.pointer (some ⟨bi,0,none⟩),.int .i64 x,.int .i64 m] w λen w'=>en= .returned (.int .i64 (gI (l.map (·.1)) x m))/\w'=w:=by
 obtain⟨R,a2⟩: ∃R,gI (l.map (·.1)) x m=R:=⟨_,rfl⟩;rw[a2];have a5:Hid (gI (l.map (·.1)) x m=R):=a2;clear a2;obtain⟨ao,cap,rfl⟩:=aw hO;have d2:=hI.c2
 go_in
 go_wp2
 go_loop [7] (λt=> ∃k:Nat,k<=l.length/\t= .int .i64 k/\Hid (∀j (hj:j<l.length),j<k-> ¬(l[j].1.cls=x/\l[j].1.meth=m))) (λt=>l.length-(intOf t).toNat)
 case atStart=>exact⟨0,Nat.zero_le _,rfl,λj hj h=>absurd h (by omega)⟩
 case round=>
  obtain⟨k,hk,rfl,HA⟩:=hrel
  by_cases hlt:k<l.length
  .have a3:=aH hlt;obtain⟨g,rfl,b0,b3,a0⟩:=aF hO (by omega);have a7:=a0 _ _ (jV a3);have a8:=a0 _ _ (jW a3);clear a0;have a6:(k:Int)<(l.length:Int):=by omega
   clear a3
   by_cases h1:l[k].1.cls=x
   .by_cases h2:l[k].1.meth=m
    .have a1:R=k:=by
      rw[<-a5.out];refine yf (by simpa using hlt) (by simp[h1,h2]) (λj hj a4=> ?_);have:=HA.out j (by simpa using hj) a4;simpa using this
     subst a1;have b1:(l[k].1.cls==x)=true:=by simpa using h1
     have b2:(l[k].1.meth==m)=true:=by simpa using h2
     clear h1 h2
     go_wp2
     go_ret;exact⟨rfl,rfl⟩
    .have b1:(l[k].1.cls==x)=true:=by simpa using h1
     have b2:(l[k].1.meth==m)=false:=by simpa using h2
     have HN:Hid (∀j (hj:j<l.length),j<k+1-> ¬(l[j].1.cls=x/\l[j].1.meth=m)):=by
      intro j hj a4;obtain h|h:=Nat.lt_or_ge j k
      .exact HA.out j hj h
      .have:j=k:=by omega
       subst this;exact λh=>h2 h.2
     clear h1 h2
     go_wp2
     go_round
     case rel=>exact⟨k+1,by omega,by go_num,HN⟩
     case measure=>simp[intOf];omega
   .have b1:(l[k].1.cls==x)=false:=by simpa using h1
    have HN:Hid (∀j (hj:j<l.length),j<k+1-> ¬(l[j].1.cls=x/\l[j].1.meth=m)):=by
     intro j hj a4;obtain h|h:=Nat.lt_or_ge j k
     .exact HA.out j hj h
     .have:j=k:=by omega
      subst this;exact λh=>h1 h.1
    clear h1
    go_wp2
    go_round
    case rel=>exact⟨k+1,by omega,by go_num,HN⟩
    case measure=>simp[intOf];omega
  .have a1:R= -1:=by
    rw[<-a5.out];refine yg (λj hj=> ?_);have:=HA.out j (by simpa using hj) (by simp at hj;omega);simpa using this
   subst a1
   go_wp2
   go_ret;exact⟨rfl,rfl⟩
end
section
open Go Go.RowKit Sp
attribute [local go_sem ↓] dG dH
theorem Ar:(prog.info? 52).map (λi=>(i.zero,i.size,i.bytes))=some (some (.agg #[.int .i64 0,.int .i64 0,.string ⟨#[]⟩,S_,S_]),5,80):=by kernel_rfl
structure rR (w:World) (top:Nat) (v2:Value) (l:List (Bod×Value×Value)):Prop where
 own:w.ownsRow top 52 5 v2 l.length (dL l)
 code: ∀x∈l,w.ownsRow top 144 4 x.2.1 x.1.code.length (dB x.1.code)/\x.2.2= S_/\(∀g,x.2.1.ownBlock=some g->v2.ownBlock≠some g)
theorem rR.but {F:Nat->Prop} {w w':World} {top:Nat} {v2:Value} {l:List (Bod×Value×Value)} (h:rR w top v2 l) (hb:But F w w') (hF: ∀k,F k->k<top):rR w' top v2 l:=
 ⟨aj h.own hb (λg hg hf=>by have:=ay h.own g hg;have:=hF g hf;omega),λx hx=>⟨aj (h.code x hx).1 hb (λg hg hf=>by have:=ay (h.code x hx).1 g hg;have:=hF g hf;omega),(h.code x hx).2⟩⟩
section
variable (b:Nat) (s:ByteArray) (i:Nat) (bi:Nat) (vc vt:Value) (w:World)
theorem qW (base top:Nat) (cs:List Cls) (gs:List Sig) (v2:Value) (l:List (Bod×Value×Value)) (cl me:Int) (loc:L_) (hll:l.length<=7) (hloc:loc.length<=5) (hs:s.size<=2000) (hbi:b≠bi) (hbb:b<base) (hbib:bi<base) (hbt:base<=top) (hR:RdB w b s i false false bi vc vt) (hH:eQ w base top bi cs gs v2) (hBd:rR w top v2 l) (htw:top<=w.heap.size):
  Calls prog 80 #[.pointer (some ⟨b,0,none⟩),.agg #[.int .i64 cl,.int .i64 me,.string ⟨loc.toArray⟩,S_,S_]] w λen w'=>en= .returned (.tuple #[])/\But (λk=>k=b\/k=bi\/top<=k) w w'/\
   ∃j bad vc' vt',RdB w' b s j bad false bi vc' vt'/\
    ((bad=false/\ ∃is vk v2',dy s cs gs.length loc.length 100 [] i= .ok (is,j)/\eQ w' base top bi cs gs v2'/\rR w' top v2' (l++ [(⟨cl,me,loc,is⟩,vk,S_)]))\/(bad=true/\dy s cs gs.length loc.length 100 [] i= .error j)):=by
 obtain⟨i0,h8,j0,j1,j2⟩:=info_parts Ar;have c3:=hR.c3;have c5:=hR.c5;have c6:=hR.c6;have f5:=hR.fz 5;have f6:=hR.fz 6;have blt:=hR.lt
 go_in
 go_wp2_with fail;have h4:RdB ((w.setCell ⟨b,5,none⟩ S_).setCell ⟨b,6,none⟩ S_) b s i false false bi S_ S_:=(hR.set5 _).set6 _;have g4:But (· =b) w ((w.setCell ⟨b,5,none⟩ S_).setCell ⟨b,6,none⟩ S_):=(au _ _ _ _).trans (au _ _ _ _);have i6:((w.setCell ⟨b,5,none⟩ S_).setCell ⟨b,6,none⟩ S_).heap.size=w.heap.size:=by rw[bI,bI]
 generalize ((w.setCell ⟨b,5,none⟩ S_).setCell ⟨b,6,none⟩ S_)=w0 at*;have f3:But (· =b) w (w0.alloc (.cells #[.int .i64 cl,.int .i64 me,.string ⟨loc.toArray⟩,S_,S_] 52)):=g4.trans (ag _ _ _);have g2:bi<base:=hbib;refine(Aq b s i false bi _ _ base top cs gs v2 loc.length hloc hs hbi hbb (h4.alloc _) (hH.but f3 (λh=>hbi h.symm) (λk h=>by omega))).mono ?_;rintro en w1 ⟨rfl,f4,j,bad,l0,e8,c7⟩
 have b6:w1.heap[w.heap.size]?=some (.cells #[.int .i64 cl,.int .i64 me,.string ⟨loc.toArray⟩,S_,S_] 52):=by
  rw[f4.block _ (by simp;omega) (by omega)];exact aB i6 _
 have b3:But (· =b) w w1:=f3.trans f4;have e2:=e8.c2;clear c3 c5 c6 f5 f6;obtain⟨rfl,is,a1,b5,h9,a6⟩ | ⟨rfl,a1⟩:=c7
 .have HC:Hid (dy s cs gs.length loc.length 100 [] i= .ok (is,j+1)):=a1;obtain⟨ak,capk,rfl⟩:=aw a6;have HD:Hid (pk s j=46):=bS (by rw[b5];rfl);clear a1 b5;go_wp2_with fail;refine(Ah b s j false false bi _ _ _ 46 hs e8 (by decide) HD.out).mono ?_;rintro en w2 ⟨rfl,e0,e9⟩
  have a4:w2.heap[w.heap.size]?=some (.cells #[.int .i64 cl,.int .i64 me,.string ⟨loc.toArray⟩,S_,S_] 52):=by
   rw[e0.block _ (ae b6) (by omega)];exact b6
  have e7:But (· =b) w w2:=b3.trans e0
  have g1:w2.ownsRow top 144 4 (.slice ak is.length capk) is.length (dB is):=by
   have:=aj a6 e0 (λg hg h=>by have:=ay a6 g hg;simp at this;omega);refine⟨this.1,?_⟩;obtain h| ⟨g,cp,cur,h1,h2,h3⟩:=this.2
   .exact Or.inl h
   .exact Or.inr ⟨g,cp,cur,h1,by simp at h2;omega,h3⟩
  have a7: ∀g,(Value.slice ak is.length capk).ownBlock=some g->w.heap.size<g:=λg hg=>by have:=ay a6 g hg;simp at this;omega
  have i1:=aW g1;have e5:=e9.c5;have e6:=e9.c6;have k3:=ce3 a4;have k4:=ce4 a4;have j7:w2.frozen? ⟨w.heap.size,3,none⟩=false:=b7 w2 _ 3 _ _ a4;have k9:w2.frozen? ⟨w.heap.size,4,none⟩=false:=b7 w2 _ 4 _ _ a4;have f1:b≠w.heap.size:=by omega
  have g3:w.heap.size≠b:=by omega
  clear e2;go_wp2_with fail;have a3:((w2.setCell ⟨w.heap.size,3,none⟩ (.slice ak is.length capk)).setCell ⟨w.heap.size,4,none⟩ S_).heap[w.heap.size]?=some (.cells #[.int .i64 cl,.int .i64 me,.string ⟨loc.toArray⟩,.slice ak is.length capk,S_] 52):=bG _ _ 4 _ _ _ (bG w2 _ 3 _ _ _ a4);have e1:But (· =w.heap.size) w2 ((w2.setCell ⟨w.heap.size,3,none⟩ (.slice ak is.length capk)).setCell ⟨w.heap.size,4,none⟩ S_):=(au _ _ _ _).trans (au _ _ _ _);generalize ((w2.setCell ⟨w.heap.size,3,none⟩ (.slice ak is.length capk)).setCell ⟨w.heap.size,4,none⟩ S_)=W at*
  have f0:RdB W b s (j+1) false false bi (.slice ak is.length capk) S_:=e9.but e1 f1;have e3:But (· =b) w W:=e7.next e1 (λk hk h=>by omega);have g5:eQ W base top bi cs gs v2:=hH.but e3 (λh=>hbi h.symm) (λk h=>by omega);have f7:rR W top v2 l:=hBd.but e3 (λk h=>by omega);have b4:=aj g1 e1 (λg hg h=>by have:=a7 g hg;omega);obtain⟨i7,i4,i5,v0,v1,d6,f8,g0,f2⟩:=g5;obtain⟨a2,a0,rfl⟩:=aw hBd.own;have b0:=f7.own;have a8:=aW hBd.own;have e4:=f0.c4;have i2:=d6.c2;have iz:=d6.fz 2;have bltW:=f0.lt;have biltW:=d6.lt;have gltW:=ae a3;have k0:=ce0 a3;have k1:=ce1 a3;have k2:=ce2 a3
  have j3:=ce3 a3;have j4:=ce4 a3;have ab:(Value.slice a2 l.length a0).ownBlock≠some b:=λh=>by have:=ay b0 _ h;omega
  have abi:(Value.slice a2 l.length a0).ownBlock≠some bi:=λh=>by have:=ay b0 _ h;omega
  have agk:(Value.slice a2 l.length a0).ownBlock≠some w.heap.size:=λh=>by have:=a8 _ h;omega
  have h6:But (λk=>(Value.slice a2 l.length a0).ownBlock=some k) W W.drew:=aD _ _;refine aI (But (λk=>(Value.slice a2 l.length a0).ownBlock=some k) W) 14 ?_
  iterate 12 (refine aQ (v:=?_) rfl h6 ?_ ?_;rotate_left;(focus (intro wS h;have q0:=((h.cell (p:=⟨b,4,none⟩) bltW ab).trans e4);have q1:=((h.cell (p:=⟨bi,2,none⟩) biltW abi).trans i2);have q2:=((h.cell (p:=⟨w.heap.size,0,none⟩) gltW agk).trans k0);have q3:=((h.cell (p:=⟨w.heap.size,1,none⟩) gltW agk).trans k1);have q4:=((h.cell (p:=⟨w.heap.size,2,none⟩) gltW agk).trans k2);have q5:=((h.cell (p:=⟨w.heap.size,3,none⟩) gltW agk).trans j3);have q6:=((h.cell (p:=⟨w.heap.size,4,none⟩) gltW agk).trans j4);clear h;go_simp;try rfl));dsimp only[Act.put];try simp only[cH])
  refine az rfl ?_;intro KS hKS;go_simp;refine hKS.out _ _ (λ_=>(ag _ _ _).trans (aD _ _)) ?_;clear hKS KS;refine az rfl ?_;intro KS hKS
  refine step_append_lies _ (by rfl) _ _ _ (by rfl) top 52 i0 _ 5 80 Tryz.underlying42 h8 j0 j1 j2 rfl (by omega) _ l.length (dL l) (by rfl) ((b0.alloc _).drew)
     ⟨W.heap.size,0,none⟩ 1 1 [.int .i64 cl,.int .i64 me,.string ⟨loc.toArray⟩,.slice ak is.length capk,S_] (by rfl) (by rfl) (fX (cs:=#[.int .i64 cl,.int .i64 me,.string ⟨loc.toArray⟩,.slice ak is.length capk,S_]) (t:=52) (fr:=(0,0)) (aO W _)) (by simp[Value.oneCell'])
     (by omega) (by unfold maxLen;omega) (by omega) (by simp;omega) (W.heap.size+1) (by simp) ?_
  intro gg cap3 w3 a5 b9 h7 i3;have b1:But (λk=>(Value.slice a2 l.length a0).ownBlock=some k) W w3:=((ag _ _ _).trans (aD _ _)).trans (bc b9);refine hKS.out _ _ (λ_=>b1) ?_;clear hKS KS;have y0:=(b1.cell (p:=⟨bi,2,none⟩) biltW abi).trans i2;have y1:=(b1.frozen (p:=⟨bi,2,none⟩) biltW abi).trans iz;refine az rfl ?_;intro KS hKS;go_simp;refine hKS.out _ _ nofun ?_;clear hKS KS;refine az rfl ?_;intro KS hKS;go_simp;refine hKS.out _ _ nofun ?_;clear hKS KS;refine az rfl ?_;intro KS hKS;go_simp;refine hKS.out _ _ nofun ?_;clear hKS KS;refine aR rfl ?_;have j5:=ay a5 gg rfl;have h0:RdB (w3.setCell ⟨bi,2,none⟩ (.slice (some ⟨gg,0,none⟩) (l.length+1) cap3)) b s (j+1) false false bi (.slice ak is.length capk) S_:=(f0.but b1 ab).but (au _ _ _ _) hbi
  have g6:ImB (w3.setCell ⟨bi,2,none⟩ (.slice (some ⟨gg,0,none⟩) (l.length+1) cap3)) bi v0 v1 (.slice (some ⟨gg,0,none⟩) (l.length+1) cap3):=(d6.but b1 abi).set2 _;have b2:But (λk=>k=bi\/(Value.slice a2 l.length a0).ownBlock=some k) W (w3.setCell ⟨bi,2,none⟩ (.slice (some ⟨gg,0,none⟩) (l.length+1) cap3)):=(b1.mono (λ_ _ h=>Or.inr h)).next (au _ _ _ _) (λ_ _ h=>Or.inl h);have g7:=aj a5 (au w3 bi 2 (.slice (some ⟨gg,0,none⟩) (l.length+1) cap3)) (λg hg h=>by have:=ay a5 g hg;omega);generalize (w3.setCell ⟨bi,2,none⟩ (.slice (some ⟨gg,0,none⟩) (l.length+1) cap3))=w4 at*
  have c9: ∀g,g<W.heap.size->(Value.slice a2 l.length a0).ownBlock≠some g->gg≠g:=λg hg hn h=>by
   obtain h'|h':=h7
   .exact hn (by rw[<-h];exact h')
   .omega
  go_wp2_with fail;go_end0;refine⟨rfl,(e3.mono (λ_ _ h=>Or.inl h)).next b2 (λk hk h=> ?_),j+1,false,_,_,h0,Or.inl ⟨rfl,is,.slice ak is.length capk,.slice (some ⟨gg,0,none⟩) (l.length+1) cap3,HC.out,⟨i7,i4,i5,v0,v1,g6,?_,?_,f2⟩,⟨?_,?_⟩⟩⟩
  .obtain h|h:=h
   .exact Or.inr (Or.inl h)
   .exact Or.inr (Or.inr (ay b0 _ h))
  .exact aj f8 b2 (λg hg h=>by
    have h1:=ay f8 g hg;have h2:=f2 g (Or.inl hg);obtain h|h:=h
    .omega
    .have:=ay b0 _ h;omega)
  .exact aj g0 b2 (λg hg h=>by
    have h1:=ay g0 g hg;have h2:=f2 g (Or.inr hg);obtain h|h:=h
    .omega
    .have:=ay b0 _ h;omega)
  .rw[qw,aZ];exact g7
  .intro x hx;obtain hx|hx:=List.mem_append.1 hx
   .obtain⟨h1,h2,h3⟩:=f7.code x hx;refine⟨aj h1 b2 (λg hg h=> ?_),h2,λg hg h=> ?_⟩
    .have:=ay h1 g hg;obtain h|h:=h
     .omega
     .exact h3 g hg h
    .have h5:gg=g:=by simpa[Value.ownBlock]using h
     exact c9 g (aW h1 g hg) (h3 g hg) h5
   .simp at hx;subst hx;refine⟨aj b4 b2 (λg hg h=> ?_),rfl,λg hg h=> ?_⟩
    .have:=a7 g hg;obtain h|h:=h
     .omega
     .have:=a8 _ h;omega
    .have h5:gg=g:=by simpa[Value.ownBlock]using h
     refine c9 g (aW b4 g hg) (λh=> ?_) h5;have:=a8 _ h;have:=a7 g hg;omega
 .go_wp2_with fail;exact gK results80 rfl ⟨rfl,b3.mono (λ_ _ h=>Or.inl h),j,true,_,_,e8,Or.inr ⟨rfl,a1⟩⟩
end
end
section
open Go Go.RowKit Sp
theorem Dd (a d:Int) (c e:UInt8) (ha:a=c.toNat) (hd:d=e.toNat) (w:World):(convert 112 9 (.slice (some ⟨w.heap.size,0,none⟩) 2 2)).run prog (w.alloc (.cells #[.int .u8 a,.int .u8 d] 5))= .ok (.string ⟨#[c,e]⟩) (w.alloc (.cells #[.int .u8 a,.int .u8 d] 5)):=by
 subst ha hd;exact D4 c e w
theorem B0 {s:ByteArray} {n i d j:Nat} (h:ej s n i= .ok (d,j)):j=i+1/\d<n/\i<s.size:=by
 unfold ej at h
 split at h
 .rename_i hd
  cases h
  have h1:=lC.1 hd;exact⟨rfl,by omega,iq (by omega)⟩
 .cases h
theorem tS (bs:List Bod) (x m:Int):(jC bs x m).isSome=decide (0<=gI bs x m):=by
 unfold gI
 cases jC bs x m with
 |none=>rfl
 |some k=>simp
def B1 (R:Except Nat (List Bod×Nat)) (b:Nat) (s:ByteArray) (bi base top:Nat) (cs:List Cls) (gs:List Sig) (w':World):Prop:=
 ∃j bad vc' vt',RdB w' b s j bad false bi vc' vt'/\
  ((bad=false/\ ∃l v2,R= .ok (l.map (·.1),j)/\l.length<=6/\eQ w' base top bi cs gs v2/\rR w' top v2 l)\/(bad=true/\R= .error j))
section
variable (b:Nat) (s:ByteArray) (i:Nat) (bi:Nat) (vc vt:Value) (w:World)
theorem vK (base top:Nat) (cs:List Cls) (gs:List Sig) (hs:s.size<=2000) (hbi:b≠bi) (hbb:b<base) (hbib:bi<base) (hbt:base<=top) (hR:RdB w b s i false false bi vc vt) (hH:eQ w base top bi cs gs S_) (htw:top<=w.heap.size):
  Calls prog 78 #[.pointer (some ⟨b,0,none⟩)] w λen w'=>en= .returned (.tuple #[])/\But (λk=>k=b\/k=bi\/top<=k) w w'/\
   B1 (fU s cs gs 6 [] i) b s bi base top cs gs w':=by
 obtain⟨R,h0⟩: ∃R,fU s cs gs 6 [] i=R:=⟨_,rfl⟩;rw[h0];have j0:Hid (fU s cs gs 6 [] i=R):=h0;clear h0;have h3:=hH.nc;have m3:=hH.ns
 go_in
 go_wp2_with (go_at_call 127;refine(cA b s i false false bi vc vt _ hs hR).mono ?_;rintro en w' ⟨rfl,nn,rfl⟩)
 go_loopg [2] 7 (λm c wr=> ∃(i':Nat) (bad':Bool) (vc vt:Value),c= .int .u8 (pk s i').toNat/\But (λk=>k=b\/k=bi\/top<=k) w wr/\RdB wr b s i' bad' false bi vc vt/\
  ((bad'=false/\ ∃f l v2,m=f+1/\f+List.length l=6/\fU s cs gs f (l.map (·.1)) i'=R/\eQ wr base top bi cs gs v2/\rR wr top v2 l)\/(bad'=true/\m=0/\R= .error i')))
 case atStart=>exact⟨i,false,_,_,rfl,aK _ _ _,hR.drewN _,Or.inl ⟨rfl,6,[],_,rfl,rfl,j0.out,hH.but (aK (λ_=>False) _ _) (λh=>h) (λk h=>h.elim),⟨df _ _ _ _,λx hx=>by cases hx⟩⟩⟩
 case round=>
  obtain⟨i',bad',vc,vt,rfl,hB,a5,e8⟩:=hrel;have c1:=a5.c1;have c2:=a5.c2;have c4:=a5.c4;have f1:=a5.fz 1;have f2:=a5.fz 2;obtain⟨rfl,f,l,v2,rfl,k9,i2,f0,e7⟩ | ⟨rfl,rfl,rfl⟩:=e8
  .have HT:Hid (fU s cs gs f (l.map (·.1)) i'=R):=i2;have l0:f+l.length<=6:=by omega
   have l3:6<=f+l.length:=by omega
   have blt:=a5.lt;clear i2 k9;obtain⟨a2,e0,rfl⟩:=aw e7.own;obtain⟨n4,_,_,v0,v1,c9,h7,f4,n1⟩:=f0;obtain⟨a0,cap0,rfl⟩:=aw h7;obtain⟨a1,cap1,rfl⟩:=aw f4;have d0:=c9.c0;have d1:=c9.c1;have d2:=c9.c2;have bilt:=c9.lt;have f0:eQ wr base top bi cs gs (.slice a2 l.length e0):=⟨n4,h3,m3,_,_,c9,h7,f4,n1⟩
   by_cases hpe:(pk s i').toNat=59
   · --the end
    have hi:i'<s.size:=iq (by omega);have m2:(((pk s i').toNat:Int)!=59)=false:=by rw[bne_eq_false_iff_eq];omega
    have a4:R= .ok (l.map (·.1),i'+1):=by rw[<-HT.out];cases f<;>simp[fU,hpe]
    subst a4;clear HT hpe;go_wp2_with fail;go_end0;have g3:But (· =b) wr (wr.setCell ⟨b,1,none⟩ (.int .i64 ((i':Int)+1))):=au _ _ _ _;exact⟨rfl,hB.next g3 (λ_ _ h=>Or.inl h),i'+1,false,_,_,a5.inc,Or.inl ⟨rfl,l,_,rfl,by omega,f0.but g3 (λh=>hbi h.symm) (λk h=>by omega),e7.but g3 (λk h=>by omega)⟩⟩
   .have m2:(((pk s i').toNat:Int)!=59)=true:=by rw[bne_iff_ne];omega
    have c7:Hid (¬(pk s i').toNat=59):=hpe;clear hpe
    cases f with
    |zero=>
     have a4:R= .error i':=by rw[<-HT.out];simp[fU,c7.out]
     subst a4;have h2:(6:Int)<=(l.length:Int):=by omega
     clear HT;go_wp2_with fail;exact gK results78 rfl ⟨rfl,hB.next (au _ _ _ _) (λ_ _ h=>Or.inl h),i',true,_,_,a5.set2 true,Or.inr ⟨rfl,rfl⟩⟩
    |succ f=>
     have h2: ¬(6:Int)<=(l.length:Int):=by omega
     go_wp2_with fail;refine(gN b s i' false bi vc vt _ _ cs.length rfl h3 hs a5).mono ?_;rintro en w1 ⟨g0,xv,j,bad,rfl,f5,a3⟩;have g4:But (λk=>k=b\/k=bi\/top<=k) w w1:=hB.next g0 (λ_ _ h=>Or.inl h);have e2:=f5.c2;have e4:=f5.c4;have g5:=c9.but g0 (λh=>hbi h.symm);clear c1 c2 c4 f1 f2 d0 d1 d2;have d0:=g5.c0;have d1:=g5.c1;obtain⟨rfl,x,rfl,o0,hx⟩ | ⟨rfl,hx⟩:=a3
     case inr=>
      have a4:R= .error j:=by rw[<-HT.out];simp[fU,c7.out,hx]
      subst a4;clear HT hx;go_wp2_with fail;exact gK results78 rfl ⟨rfl,g4,j,true,_,_,f5,Or.inr ⟨rfl,rfl⟩⟩
     have HX:Hid (eX s cs.length i'= .ok (x,j)):=hx;clear hx;go_wp2_with fail;refine(dN b s j false bi vc vt _ _ gs.length rfl hs f5).mono ?_;rintro en w2 ⟨h5,mv,p,bad,rfl,a6,a3⟩;have b3:But (· =b) wr w2:=g0.trans h5;have e3:But (λk=>k=b\/k=bi\/top<=k) w w2:=hB.next b3 (λ_ _ h=>Or.inl h);have f3:=g5.but h5 (λh=>hbi h.symm);clear e2 e4 d0 d1;have e1:=a6.c1;have e2:=a6.c2;have e4:=a6.c4;have g1:=a6.fz 1;have g2:=a6.fz 2;have d0:=f3.c0;have d1:=f3.c1;obtain⟨rfl,m,rfl,l6,hm⟩ | ⟨rfl,hm⟩:=a3
     case inr=>
      have a4:R= .error p:=by rw[<-HT.out];simp[fU,c7.out,HX.out,hm]
      subst a4;clear HT hm;go_wp2_with fail;exact gK results78 rfl ⟨rfl,e3,p,true,_,_,a6,Or.inr ⟨rfl,rfl⟩⟩
     have HM:Hid (ej s gs.length j= .ok (m,p)):=hm;obtain⟨i0,m1,n6⟩:=B0 hm;clear hm;have k0:w2.ownsRow top 52 5 (.slice a2 l.length e0) l.length (dL l):=aj e7.own b3 (λg hg h=>by have:=ay e7.own g hg;omega);go_wp2_with fail;refine(xj top bi _ _ _ l (x:Int) (m:Int) _ (by omega) f3 k0).mono ?_;rintro en wx ⟨rfl,i3⟩;rw[i3];clear i3 wx;have d6:=tS (l.map (·.1)) (x:Int) (m:Int);obtain⟨oi,e9⟩: ∃oi,gI (l.map (·.1)) (x:Int) (m:Int)=oi:=⟨_,rfl⟩;rw[e9]at d6⊢;clear e9
     by_cases e9:0<=oi
     · --there is one already
      have b0:(jC (l.map (·.1)) (x:Int) (m:Int)).isSome=true:=by rw[d6];simpa using e9
      have a4:R= .error j:=by rw[<-HT.out];simp only[fU,if_neg c7.out,HX.out,HM.out,if_pos b0]
      subst a4;have i1:(p:Int)-1=(j:Int):=by omega
      have i7:Hid ((p:Int)-1=(j:Int)):=i1;have n7:(1:Int)<=(p:Int):=by omega
      have n8:(p:Int)<=3000:=by omega
      clear HT b0 d6 i1 i0;go_wp2_with fail;refine gK results78 rfl ⟨rfl,?_,j,true,vc,vt,?_,Or.inr ⟨rfl,rfl⟩⟩
      .exact(e3.next (au _ _ _ _) (λ_ _ h=>Or.inl h)).next (au _ _ _ _) (λ_ _ h=>Or.inl h)
      .rw[i7.out];exact(a6.set1 j).set2 true
     .have a8: ¬(jC (l.map (·.1)) (x:Int) (m:Int)).isSome=true:=by rw[d6];simpa using e9
      have h4:Hid (¬(jC (l.map (·.1)) (x:Int) (m:Int)).isSome=true):=a8;clear a8 d6 i0;go_wp2_with fail;refine(kb b s p false bi vc vt _ _ _ _ 3 cs.length 58 rfl rfl rfl hs h3 (by omega) (by decide) a6).mono ?_;rintro en w3 ⟨h6,o,q,bad,rfl,m4,f6,a3⟩;have b4:But (· =b) wr w3:=b3.trans h6;have e5:But (λk=>k=b\/k=bi\/top<=k) w w3:=hB.next b4 (λ_ _ h=>Or.inl h);have j7:=f3.but h6 (λh=>hbi h.symm);clear e1 e2 e4 g1 g2 d0 d1;have e2:=f6.c2;have e4:=f6.c4;have d1:=j7.c1;obtain⟨rfl,t,rfl,ht⟩ | ⟨rfl,ht⟩:=a3
      case inr=>
       have a4:R= .error q:=by rw[<-HT.out];simp only[fU,if_neg c7.out,HX.out,HM.out,if_neg h4.out,ht]
       subst a4;clear HT ht;go_wp2_with fail;exact gK results78 rfl ⟨rfl,e5,q,true,_,_,f6,Or.inr ⟨rfl,rfl⟩⟩
      have j1:Hid (tys s cs.length 58 3 [] p= .ok (t,q)):=ht;have n0:=jd ht;simp only[List.length_nil,Nat.add_zero]at n0;clear ht;have h1:=aH m1;have g6:=aj f4 b4 (λg hg h=>by have:=ay f4 g hg;omega);obtain⟨gS,rfl,l4,l5,a7⟩:=aF g6 (by omega);have h8:=a7 _ _ (mH h1);clear a7;have m0:(m:Int)<(gs.length:Int):=by omega
      have n9:(x:Int)<4:=by omega
      obtain⟨arg,b6⟩: ∃arg:UInt8,gs[m].arg=arg:=⟨_,rfl⟩
      have f8:Hid (jD gs m=arg):=by
       show jD gs m=arg
       unfold jD;rw[h1];exact b6
      rw[b6]at h8;clear b6 h1;obtain⟨cx,b9⟩: ∃cx:UInt8,UInt8.ofNat (65+x)=cx:=⟨_,rfl⟩
      have h9:(65+(x:Int))=(cx.toNat:Int):=by
       rw[<-b9,UInt8.toNat_ofNat'];omega
      have i5:Hid ((65+(x:Int))=(cx.toNat:Int)):=h9;have i4:Hid (UInt8.ofNat (65+x)=cx):=b9;have k3:=Dd (65+(x:Int)) (arg.toNat:Int) cx arg i5.out rfl;have m5:(⟨#[cx,arg]⟩:ByteArray).size+(⟨t.toArray⟩:ByteArray).size<=1000:=by show 2+t.toArray.size<=1000;simp;omega
      clear h9 b9;go_wp2_with fail;rw[show(⟨#[cx,arg]⟩:ByteArray)++⟨t.toArray⟩=⟨(cx::arg::t).toArray⟩from fW [cx,arg] t];have b5:But (· =b) wr (w3.alloc (.cells #[.int .u8 (65+(x:Int)),.int .u8 arg.toNat] 5)):=b4.trans (ag _ _ _);have n5:=hB.size;have n2:=e5.size;refine(qW b s q bi _ _ _ base top cs gs _ l (x:Int) (m:Int) (cx::arg::t) (by omega) (by simp;omega) hs hbi hbb hbib hbt (f6.alloc _) (f0.but b5 (λh=>hbi h.symm) (λk h=>by omega)) (e7.but b5 (λk h=>by omega)) (by simp;omega)).mono ?_;rintro en w4 ⟨rfl,j2,j4,b2,o1,o2,g7,a3⟩;have i6:Hid ((b2=false/\ ∃is vk f7,dy s cs gs.length (cx::arg::t).length 100 [] q= .ok (is,j4)/\eQ w4 base top bi cs gs f7/\rR w4 top f7 (l++ [(⟨x,m,cx::arg::t,is⟩,vk,S_)]))\/(b2=true/\dy s cs gs.length (cx::arg::t).length 100 [] q= .error j4)):=a3
      have e6:But (λk=>k=b\/k=bi\/top<=k) w w4:=(hB.next b5 (λ_ _ h=>Or.inl h)).trans j2;clear a3 e2 e4 d1 h8 k3;go_wp2_with (go_at_call 127;refine(cA b s j4 b2 false bi _ _ _ hs g7).mono ?_;rintro en w' ⟨rfl,n3,rfl⟩)
      have b1: ∀r,dy s cs gs.length (cx::arg::t).length 100 [] q=r->R=match r with
        | .error e=> .error e
        | .ok (is,z)=>fU s cs gs f (l.map (·.1)++ [⟨x,m,cx::arg::t,is⟩]) z:=by
       intro r hr;rw[<-HT.out];simp only[fU,if_neg c7.out,HX.out,HM.out,if_neg h4.out,j1.out,f8.out,i4.out];rw[show(cx::arg::t).length=t.length+2 from rfl]at hr;rw[hr];obtain e| ⟨is,z⟩:=r<;>rfl
      obtain⟨rfl,is,vk,f7,hc,j5,j3⟩ | ⟨rfl,hc⟩:=i6.out
      .go_roundg (f+1)
       case measure=>omega
       case rel=>
        refine⟨j4,false,_,_,rfl,e6.next (aK (λ_=>False) _ _) (λ_ _ h=>h.elim),g7.drewN _,Or.inl ⟨rfl,f,_,f7,rfl,by simp;omega,?_,j5.but (aK (λ_=>False) _ _) (λh=>h) (λk h=>h.elim),j3.but (aK (λ_=>False) _ _) (λk h=>h.elim)⟩⟩;rw[List.map_append];exact(b1 _ hc).symm
      .go_roundg 0
       case measure=>omega
       case rel=>exact⟨j4,true,_,_,rfl,e6.next (aK (λ_=>False) _ _) (λ_ _ h=>h.elim),g7.drewN _,Or.inr ⟨rfl,rfl,b1 _ hc⟩⟩
  .go_wp2_with fail;go_end0;exact⟨rfl,hB,i',true,_,_,a5,Or.inr ⟨rfl,rfl⟩⟩
end
theorem iF {w:World} {base base' e size n:Nat} {v:Value} {xs:List Value} (h:w.ownsRow base e size v n xs) (hb:base'<=base):w.ownsRow base' e size v n xs:=by
 refine⟨h.1,?_⟩;obtain h2| ⟨g,cap,cur,h1,h2,h3⟩:=h.2
 .exact Or.inl h2
 .exact Or.inr ⟨g,cap,cur,h1,by omega,h3⟩
def dX (w:World) (bi:Nat) (im:Img):Prop:=
 ∃v0 v1 v2 l,ImB w bi v0 v1 v2/\w.ownsRow 0 203 2 v0 im.zz.length (dA im.zz)/\w.ownsRow 0 129 2 v1 im.zj.length (dr im.zj)/\
  w.ownsRow 0 52 5 v2 l.length (dL l)/\l.map (·.1)=im.zq/\
  ∀x∈l,w.ownsRow 0 144 4 x.2.1 x.1.code.length (dB x.1.code)/\x.2.2= S_
theorem dX.but {w w':World} {bi:Nat} {im:Img} (h:dX w bi im) (hb:B_ w w'):dX w' bi im:=by
 obtain⟨v0,v1,v2,l,hI,h0,h1,h2,hl,hc⟩:=h;exact⟨v0,v1,v2,l,hI.but hb (λh=>h),aj h0 hb (λ_ _ h=>h),aj h1 hb (λ_ _ h=>h),aj h2 hb (λ_ _ h=>h),hl,λx hx=>⟨aj (hc x hx).1 hb (λ_ _ h=>h),(hc x hx).2⟩⟩
def As (R:Except Nat Img):Int:=match R with
 | .ok _=> -1
 | .error j=>j
def At (R:Except Nat Img) (bi:Nat) (w':World):Prop:=match R with
 | .ok im=>dX w' bi im
 | .error _=>True
section
variable (s:ByteArray) (w:World)
theorem Au (hs:s.size<=2000):
  Calls prog 52 #[.string s,.bool false] w λen w'=>en= .returned (.tuple #[.pointer (some ⟨w.heap.size,0,none⟩),.int .i64 (As (ec s))])/\B_ w w'/\At (ec s) w.heap.size w':=by
 obtain⟨R,f7⟩: ∃R,ec s=R:=⟨_,rfl⟩;rw[f7];have a4:Hid (ec s=R):=f7;clear f7
 go_in
 go_wp2_with fail;have i0:RdB ((w.alloc (.cells #[S_,S_,S_] 44)).alloc (.cells #[.string s,.int .i64 0,.bool false,.bool false,.pointer (some ⟨w.heap.size,0,none⟩),S_,S_] 140)) (w.heap.size+1) s 0 false false w.heap.size S_ S_:=aB (by simp) _;have h6:ImB ((w.alloc (.cells #[S_,S_,S_] 44)).alloc (.cells #[.string s,.int .i64 0,.bool false,.bool false,.pointer (some ⟨w.heap.size,0,none⟩),S_,S_] 140)) w.heap.size S_ S_ S_:=ImB.but (w:=w.alloc (.cells #[S_,S_,S_] 44)) (aO w _) (ag (λ_=>False) _ _) (λh=>h)
 have h2:B_ w ((w.alloc (.cells #[S_,S_,S_] 44)).alloc (.cells #[.string s,.int .i64 0,.bool false,.bool false,.pointer (some ⟨w.heap.size,0,none⟩),S_,S_] 140)):=(ag _ _ _).trans (ag _ _ _);have k3:((w.alloc (.cells #[S_,S_,S_] 44)).alloc (.cells #[.string s,.int .i64 0,.bool false,.bool false,.pointer (some ⟨w.heap.size,0,none⟩),S_,S_] 140)).heap.size=w.heap.size+2:=by simp
 generalize ((w.alloc (.cells #[S_,S_,S_] 44)).alloc (.cells #[.string s,.int .i64 0,.bool false,.bool false,.pointer (some ⟨w.heap.size,0,none⟩),S_,S_] 140))=w0 at*;have e6:w.heap.size+1≠w.heap.size:=by omega
 refine(tQ (w.heap.size+1) s 0 false w.heap.size _ _ w0 hs e6 i0 h6).mono ?_;rintro en w1 ⟨rfl,g0,a8⟩;have b6:B_ w w1:=h2.next g0 (λk hk h=>by omega);have j0:=g0.size;rcases hc1:ep s 4 [] 0 with j| ⟨cs,j⟩
 .rw[hc1]at a8;simp only at a8;have e1:=a8.c1;have e2:=a8.c2;have e4:=a8.c4;have a1:R= .error j:=by rw[<-a4.out];simp[ec,hc1]
  subst a1;clear a4;go_wp2_with fail
  go_quiet (fail)
  go_wp2
  go_ret2
  exact⟨rfl,b6.next (aK (λ_=>False) _ _) (λ_ _ h=>h),trivial⟩
 rw[hc1]at a8;obtain⟨f5,v0,h7,f4⟩:=a8;have b2:Hid (ep s 4 [] 0= .ok (cs,j)):=hc1;obtain⟨g6,a5⟩:=rA hc1;clear hc1;obtain⟨a0,cap0,rfl⟩:=aw f4;have e1:=f5.c1;have e2:=f5.c2;go_wp2_with fail;refine(An (w.heap.size+1) s j false w.heap.size _ _ w1 a0 cs.length cap0 a5 hs e6 f5 h7).mono ?_;rintro en w2 ⟨rfl,f1,b1⟩;have b9:B_ w w2:=b6.next f1 (λk hk h=>by omega);have j1:=f1.size;clear e1 e2;rcases hc2:gH s cs.length 3 [] j with j2| ⟨gs,j2⟩
 .rw[hc2]at b1;simp only at b1;have e1:=b1.c1;have e2:=b1.c2;have e4:=b1.c4;have a1:R= .error j2:=by rw[<-a4.out];simp[ec,b2.out,hc2]
  subst a1;clear a4;go_wp2_with fail
  go_quiet (fail)
  go_wp2
  go_ret2
  exact⟨rfl,b9.next (aK (λ_=>False) _ _) (λ_ _ h=>h),trivial⟩
 rw[hc2]at b1;obtain⟨f6,v1,h8,g4⟩:=b1;have b5:Hid (gH s cs.length 3 [] j= .ok (gs,j2)):=hc2;have e0:=oY hc2;clear hc2;have d6:=aj f4 f1 (λg hg h=>by have:=ay f4 g hg;omega)
 have h4:eQ w2 (w.heap.size+2) w2.heap.size w.heap.size cs gs S_:=⟨g6,a5,by simpa using e0,_,_,h8,iF d6 (by omega),iF g4 (by omega),λg hg=>by
  obtain hg|hg:=hg
  .exact aW d6 g hg
  .exact aW g4 g hg⟩
 have e1:=f6.c1;have e2:=f6.c2;go_wp2_with fail;refine(vK (w.heap.size+1) s j2 w.heap.size _ _ w2 (w.heap.size+2) w2.heap.size cs gs hs e6 (by omega) (by omega) (by omega) f6 h4 (b8 _)).mono ?_;rintro en w3 ⟨rfl,g1,j3,g7,l0,l4,a7,a3⟩;have c7:B_ w w3:=b9.next g1 (λk hk h=>by omega);have j7:=g1.size;clear e1 e2;obtain⟨rfl,l,v2,e7,i7,f3,g2⟩ | ⟨rfl,e7⟩:=a3
 case inr=>
  have e1:=a7.c1;have e2:=a7.c2;have e4:=a7.c4;have a1:R= .error j3:=by rw[<-a4.out];simp[ec,b2.out,b5.out,e7]
  subst a1;clear a4;go_wp2_with fail
  go_quiet (fail)
  go_wp2
  go_ret2
  exact⟨rfl,c7.next (aK (λ_=>False) _ _) (λ_ _ h=>h),trivial⟩
 have e3:Hid (fU s cs gs 6 [] j2= .ok (l.map (·.1),j3)):=e7;clear e7;obtain⟨a2,f0,rfl⟩:=aw g2.own;obtain⟨_,_,_,u0,u1,g3,g5,i1,i6⟩:=f3;obtain⟨b0,capb0,rfl⟩:=aw g5;have f3:eQ w3 (w.heap.size+2) w2.heap.size w.heap.size cs gs (.slice a2 l.length f0):=⟨g6,a5,by simpa using e0,_,_,g3,g5,i1,i6⟩;have e1:=a7.c1;have e2:=a7.c2;have e4:=a7.c4;have d0:=g3.c0;go_wp2_with fail;refine(kb (w.heap.size+1) s j3 false w.heap.size _ _ w3 _ _ _ 3 cs.length 58 rfl rfl rfl hs a5 (by omega) (by decide) a7).mono ?_;rintro en w4 ⟨e5,o,j4,h0,rfl,i4,b3,a3⟩;have c9:B_ w w4:=c7.next e5 (λk hk h=>by omega)
 have k0:=e5.size;clear e1 e2 e4 d0;obtain⟨rfl,t,rfl,ht⟩ | ⟨rfl,ht⟩:=a3
 case inr=>
  have e1:=b3.c1;have e2:=b3.c2;have e4:=b3.c4;have a1:R= .error j4:=by rw[<-a4.out];simp[ec,b2.out,b5.out,e3.out,ht]
  subst a1;clear a4;go_wp2_with fail
  go_quiet (fail)
  go_wp2
  go_ret2
  exact⟨rfl,c9.next (aK (λ_=>False) _ _) (λ_ _ h=>h),trivial⟩
 have e9:Hid (tys s cs.length 58 3 [] j3= .ok (t,j4)):=ht;have i5:=jd ht;simp only[List.length_nil,Nat.add_zero]at i5;clear ht;have e1:=b3.c1;have e2:=b3.c2;go_wp2_with fail;refine(qW (w.heap.size+1) s j4 w.heap.size _ _ w4 (w.heap.size+2) w2.heap.size cs gs _ l (-1) (-1) t (by omega) (by omega) hs e6 (by omega) (by omega) (by omega) b3 (f3.but e5 (by omega) (λk h=>by omega)) (g2.but e5 (λk h=>by omega)) (by omega)).mono ?_;rintro en w5 ⟨rfl,h3,j5,h1,l3,l5,b4,a3⟩;have a6:B_ w w5:=c9.next h3 (λk hk h=>by omega);clear e1 e2;obtain⟨rfl,is,vk,k9,e8,h5,f2⟩ | ⟨rfl,e8⟩:=a3
 case inr=>
  have e1:=b4.c1;have e2:=b4.c2;have e4:=b4.c4;have a1:R= .error j5:=by rw[<-a4.out];simp[ec,b2.out,b5.out,e3.out,e9.out,e8]
  subst a1;clear a4;go_wp2_with fail
  go_quiet (fail)
  go_wp2
  go_ret2
  exact⟨rfl,a6.next (aK (λ_=>False) _ _) (λ_ _ h=>h),trivial⟩
 have f8:Hid (dy s cs gs.length t.length 100 [] j4= .ok (is,j5)):=e8;clear e8;have e1:=b4.c1;have e2:=b4.c2;have e4:=b4.c4
 by_cases hend:(j5:Int)<(s.size:Int)
 .have a1:R= .error j5:=by rw[<-a4.out];simp[ec,b2.out,b5.out,e3.out,e9.out,f8.out];omega
  subst a1;clear a4;go_wp2_with fail
  go_quiet (fail)
  go_wp2
  go_ret2
  exact⟨rfl,a6.next (aK (λ_=>False) _ _) (λ_ _ h=>h),trivial⟩
 .have a1:R= .ok ⟨cs,gs,l.map (·.1)++ [⟨-1,-1,t,is⟩]⟩:=by rw[<-a4.out];simp[ec,b2.out,b5.out,e3.out,e9.out,f8.out];omega
  subst a1;clear a4;obtain⟨_,_,_,x0,x1,h9,i2,i3,_⟩:=h5;go_wp2_with fail
  go_ret2
  refine⟨rfl,a6,?_⟩;exact⟨_,_,_,_,h9,iF i2 (by omega),iF i3 (by omega),iF f2.own (by omega),by simp,λx hx=>⟨iF (f2.code x hx).1 (by omega),(f2.code x hx).2.1⟩⟩
end
def Ea (w:World) (bi:Nat) (im:Img):Prop:=
 ∃v0 v1 v2 l,ImB w bi v0 v1 v2/\w.ownsRow 0 203 2 v0 im.zz.length (dA im.zz)/\w.ownsRow 0 129 2 v1 im.zj.length (dr im.zj)/\
  w.ownsRow 0 52 5 v2 l.length (dL l)/\l.map (·.1)=im.zq
theorem dX.hds {w:World} {bi:Nat} {im:Img} (h:dX w bi im):Ea w bi im:=by
 obtain⟨v0,v1,v2,l,hI,h0,h1,h2,hl,_⟩:=h;exact⟨v0,v1,v2,l,hI,h0,h1,h2,hl⟩
theorem tT (bi:Nat) (im:Img) (x m:Int) (w:World) (hI:Ea w bi im) (hw:WfC im.zz) (hn:im.zz.length<=4) (hbl:im.zq.length<=7) (hx0: -1<=x) (hx:x<im.zz.length):
  Calls prog 81 #[.pointer (some ⟨bi,0,none⟩),.int .i64 x,.int .i64 m] w λen w'=>en= .returned (.int .i64 (cY im.zz im.zq m 5 x))/\w'=w:=by
 obtain⟨R,a6⟩: ∃R,cY im.zz im.zq m 5 x=R:=⟨_,rfl⟩;rw[a6];have c7:Hid (cY im.zz im.zq m 5 x=R):=a6;clear a6;obtain⟨v0,v1,v2,l,b1,hC,hS,hB,hl⟩:=hI;obtain⟨cs,gs,bs⟩:=im;simp only at*;subst hl;have e0:l.length<=100:=by simp at hbl;omega
 obtain⟨a0,cap0,rfl⟩:=aw hC;have d0:=b1.c0
 go_in
 go_wp2_with fail
 go_loopg [1,7] 5 (λmm xs ks wr=> ∃(xv:Int) (kn:Nat),xs= .int .i64 xv/\ks= .int .i64 kn/\kn<=5/\5<=kn+mm/\kn+mm<=5/\wr=w/\ -1<=xv/\xv<cs.length/\Hid (cY cs (l.map (·.1)) m mm xv=R))
 case atStart=>exact⟨x,0,rfl,rfl,by omega,by omega,by omega,rfl,hx0,hx,c7⟩
 case round=>
  obtain⟨xv,kn,rfl,rfl,e7,c9,d6,e2,e4,e3,HF⟩:=hrel;subst e2
  by_cases hxn:0<=xv
  .cases gk with
   |zero=>
    have a1:R= -1:=by rw[<-HF.out];rfl
    subst a1;have b3: ¬(kn:Int)<=4:=by omega
    go_wp2_with fail;go_ret;exact⟨rfl,rfl⟩
   |succ f=>
    have b3:(kn:Int)<=4:=by omega
    go_wp2_with fail;refine(xj 0 bi _ _ _ l xv m _ e0 b1 hB).mono ?_;rintro en wx ⟨rfl,b9⟩;rw[b9];clear b9 wx
    have a3:R=if 0<=gI (l.map (·.1)) xv m then gI (l.map (·.1)) xv m else cY cs (l.map (·.1)) m f (cX cs xv):=by
     rw[<-HF.out,cY,if_neg (by omega)]
    have a5:Hid (R=if 0<=gI (l.map (·.1)) xv m then gI (l.map (·.1)) xv m else cY cs (l.map (·.1)) m f (cX cs xv)):=a3;clear a3;obtain⟨oi,b4⟩: ∃oi,gI (l.map (·.1)) xv m=oi:=⟨_,rfl⟩;rw[b4]at a5⊢;clear b4
    by_cases ho:0<=oi
    .have a1:R=oi:=by rw[a5.out,if_pos ho]
     subst a1;go_wp2_with fail;go_ret;exact⟨rfl,rfl⟩
    .have HN:Hid (cY cs (l.map (·.1)) m f (cX cs xv)=R):=by show _=_;rw[a5.out,if_neg ho]
     obtain⟨n,b0⟩:=Int.eq_ofNat_of_zero_le hxn;have e1:n<cs.length:=by omega
     have a8:=aH e1;obtain⟨g,rfl,e5,e6,a2⟩:=aF hC (by omega);have b2:=a2 _ _ (mD a8);have a4:=je hw e3 hxn;have b5:cX cs xv=cs[n].par:=by unfold cX;rw[b0,Int.toNat_natCast,a8];rfl
     rw[b5]at HN a4;have a7:wr.cell? ⟨g,xv.toNat*2,none⟩=some (.int .i64 cs[n].par):=by rw[b0,Int.toNat_natCast];exact b2
     obtain⟨pp,b6⟩: ∃pp,cs[n].par=pp:=⟨_,rfl⟩;rw[b6]at HN a4 a7;clear a2 b2 a8 b5 b6 b0;go_wp2_with fail
     go_roundg f
     case measure=>omega
     case rel=>exact⟨pp,kn+1,rfl,by simp,by omega,by omega,by omega,rfl,a4.1,a4.2,HN⟩
  .have a1:R= -1:=by
    rw[<-HF.out]
    cases gk with
    |zero=>rfl
    |succ f=>rw[cY,if_pos (by omega)]
   subst a1
   by_cases b3:(kn:Int)<=4
   .go_wp2_with fail;go_ret;exact⟨rfl,rfl⟩
   .go_wp2_with fail;go_ret;exact⟨rfl,rfl⟩
def De (o:Option Nat):Int:=match o with
 |some p=>p
 |none=> -1
theorem Df {cs:List Cls} {bs:List Bod} {c:List Ins} {k:Nat} (hk:k<c.length) (h:dp cs bs c.length c[k]=true) (hno: ∀j (hj:j<c.length),j<k->dp cs bs c.length c[j]=false):unl cs bs c=some c[k].pos:=by
 unfold unl
 have:c.find? (dp cs bs c.length)=some c[k]:=by
  rw[List.find?_eq_some_iff_getElem];exact⟨h,k,hk,rfl,λj hj=>by rw[hno j (by omega) hj];rfl⟩
 rw[this]
 rfl
theorem Av {cs:List Cls} {bs:List Bod} {c:List Ins} (hno: ∀j (hj:j<c.length),dp cs bs c.length c[j]=false):unl cs bs c=none:=by
 unfold unl
 have:c.find? (dp cs bs c.length)=none:=by
  rw[List.find?_eq_none];intro x hx;obtain⟨j,hj,rfl⟩:=List.getElem_of_mem hx;rw[hno j hj];decide
 rw[this]
 rfl
theorem rS (bi:Nat) (im:Img) (bd:Bod) (vk:Value) (w:World) (hI:dX w bi im) (hW:WfI im) (hbd:WfB im.zz im.zj bd) (hO:w.ownsRow 0 144 4 vk bd.code.length (dB bd.code)):
  Calls prog 53 #[.pointer (some ⟨bi,0,none⟩),.agg #[.int .i64 bd.cls,.int .i64 bd.meth,.string ⟨bd.locals.toArray⟩,vk,S_]] w λen w'=>en= .returned (.int .i64 (De (unl im.zz im.zq bd.code)))/\B_ w w':=by
 obtain⟨R,a8⟩: ∃R,unl im.zz im.zq bd.code=R:=⟨_,rfl⟩;rw[a8];have b5:Hid (unl im.zz im.zq bd.code=R):=a8;clear a8;obtain⟨ak,capk,rfl⟩:=aw hO;obtain⟨n,hn⟩: ∃n,bd.code.length=n:=⟨_,rfl⟩;rw[hn]at hO⊢;have HN:Hid (bd.code.length=n):=hn;have b2:=hbd.len;rw[hn]at b2;clear hn
 go_in
 go_wp2_with fail;have b9:B_ w (w.alloc (.cells #[.int .i64 bd.cls,.int .i64 bd.meth,.string ⟨bd.locals.toArray⟩,.slice ak n capk,S_] 52)):=ag _ _ _;have c9:(w.alloc (.cells #[.int .i64 bd.cls,.int .i64 bd.meth,.string ⟨bd.locals.toArray⟩,.slice ak n capk,S_] 52)).heap[w.heap.size]?=some (.cells #[.int .i64 bd.cls,.int .i64 bd.meth,.string ⟨bd.locals.toArray⟩,.slice ak n capk,S_] 52):=aO _ _;generalize (w.alloc (.cells #[.int .i64 bd.cls,.int .i64 bd.meth,.string ⟨bd.locals.toArray⟩,.slice ak n capk,S_] 52))=w0 at*
 go_loopg [5] n (λmm ks wr=> ∃(k:Nat),ks= .int .i64 k/\k<=n/\k+mm<=n/\n<=k+mm/\B_ w0 wr/\Hid (∀j (hj:j<bd.code.length),j<k->dp im.zz im.zq bd.code.length bd.code[j]=false))
 case atStart=>exact⟨0,rfl,by omega,by omega,by omega,But.refl _ _,λj hj h=>absurd h (by omega)⟩
 case round=>
  obtain⟨k,rfl,e3,e4,e5,hB,HA⟩:=hrel;have b1:wr.heap[w.heap.size]?=some (.cells #[.int .i64 bd.cls,.int .i64 bd.meth,.string ⟨bd.locals.toArray⟩,.slice ak n capk,S_] 52):=hB.kp c9;have g3:=ce3 b1;have g4:=ce4 b1;have a4:B_ w wr:=b9.trans hB;have e2:=ae b1
  by_cases hlt:k<n
  .have a3:k<bd.code.length:=by rw[HN.out];exact hlt
   have hx:=aH a3;have c7:=aj hO a4 (λ_ _ h=>h);obtain⟨g,rfl,e0,e1,a0⟩:=aF c7 (by omega);have q0:=a0 _ _ (rC hx);have q1:=a0 _ _ (rD hx);have q2:=a0 _ _ (rE hx);have q3:=a0 _ _ (rF hx);have b6:WfX im.zz im.zj.length bd.locals.length bd.code[k]:=hbd.code _ (cN a3);obtain⟨X,hX⟩: ∃X,bd.code[k]=X:=⟨_,rfl⟩
   have HB:Hid (dp im.zz im.zq bd.code.length X=true->R=some X.pos):=λh=>by
    subst hX;rw[<-b5.out];exact Df a3 h HA.out
   have a7:Hid (dp im.zz im.zq bd.code.length X=false-> ∀j (hj:j<bd.code.length),j<k+1->dp im.zz im.zq bd.code.length bd.code[j]=false):=λh j hj hjk=>by
    subst hX;obtain h'|h':=Nat.lt_or_ge j k
    .exact HA.out j hj h'
    .have:j=k:=by omega
     subst this;exact h
   rw[hX]at q0 q1 q2 q3 b6;clear a0 hx hX;have e6:(k:Int)<(n:Int):=by omega
   by_cases h99:X.op.toNat=99
   .have t1:((X.op.toNat:Int)==99)=true:=by rw[beq_iff_eq];omega
    have t2:=tf X.op.toNat 106 (by omega);have t3:=tf X.op.toNat 102 (by omega);have e7:X.a<im.zz.length:=b6.cls (by omega);have b3:Hid (X.op.toNat=99):=h99;clear h99;go_wp2_with fail;refine(tT bi im _ _ _ ((hI.but a4).but (ag _ _ _)).hds hW.cls hW.nc hW.nb (by omega) (by omega)).mono ?_;rintro en wx ⟨rfl,a6⟩;rw[a6];clear a6 wx;obtain⟨fr,b0⟩: ∃fr,cY im.zz im.zq (X.b:Int) 5 (X.a:Int)=fr:=⟨_,rfl⟩;rw[b0];have b4:Hid (cY im.zz im.zq (X.b:Int) 5 (X.a:Int)=fr):=b0;clear b0
    by_cases hf0:fr<0
    .have a1:R=some X.pos:=HB.out (by simp[dp,b3.out,b4.out,hf0]);subst a1;go_wp2_with fail;go_ret;exact⟨rfl,a4.trans (ag _ _ _)⟩
    .have a5:Hid (dp im.zz im.zq bd.code.length X=false):=by show _=_;simp[dp,b3.out,b4.out];omega
     go_wp2_with fail
     go_roundg (n-(k+1))
     case measure=>omega
     case rel=>exact⟨k+1,by simp,by omega,by omega,by omega,hB.trans (ag _ _ _),a7.out a5.out⟩
   .have t1:=tf X.op.toNat 99 (by omega)
    by_cases hj:X.op.toNat=106\/X.op.toNat=102
    .by_cases hb:(n:Int)<=(X.b:Int)
     .have a1:R=some X.pos:=HB.out (by
       have:bd.code.length<=X.b:=by rw[HN.out];omega
       simp[dp,hj,this])
      subst a1;obtain hj|hj:=hj
      .have t2:((X.op.toNat:Int)==106)=true:=by rw[beq_iff_eq];omega
       clear hj h99;go_wp2_with fail;go_ret;exact⟨rfl,a4.trans (ag _ _ _)⟩
      .have t2:=tf X.op.toNat 106 (by omega);have t3:((X.op.toNat:Int)==102)=true:=by rw[beq_iff_eq];omega
       clear hj h99;go_wp2_with fail;go_ret;exact⟨rfl,a4.trans (ag _ _ _)⟩
     .have a5:Hid (dp im.zz im.zq bd.code.length X=false):=by
       show _=_
       have h1: ¬bd.code.length<=X.b:=by rw[HN.out];omega
       simp[dp,h99,h1]
      have a2:=a7.out a5.out;obtain hj|hj:=hj
      .have t2:((X.op.toNat:Int)==106)=true:=by rw[beq_iff_eq];omega
       have HH:Hid (∀j (hj:j<bd.code.length),j<k+1->dp im.zz im.zq bd.code.length bd.code[j]=false):=a2;clear hj h99 a2;go_wp2_with fail
       go_roundg (n-(k+1))
       case measure=>omega
       case rel=>exact⟨k+1,by simp,by omega,by omega,by omega,hB.trans (ag _ _ _),HH⟩
      .have t2:=tf X.op.toNat 106 (by omega);have t3:((X.op.toNat:Int)==102)=true:=by rw[beq_iff_eq];omega
       have HH:Hid (∀j (hj:j<bd.code.length),j<k+1->dp im.zz im.zq bd.code.length bd.code[j]=false):=a2;clear hj h99 a2;go_wp2_with fail
       go_roundg (n-(k+1))
       case measure=>omega
       case rel=>exact⟨k+1,by simp,by omega,by omega,by omega,hB.trans (ag _ _ _),HH⟩
    .have t2:=tf X.op.toNat 106 (by omega);have t3:=tf X.op.toNat 102 (by omega)
     have a5:Hid (dp im.zz im.zq bd.code.length X=false):=by
      show _=_
      simp[dp,h99];omega
     have HH:Hid (∀j (hj:j<bd.code.length),j<k+1->dp im.zz im.zq bd.code.length bd.code[j]=false):=a7.out a5.out;clear hj h99;go_wp2_with fail
     go_roundg (n-(k+1))
     case measure=>omega
     case rel=>exact⟨k+1,by simp,by omega,by omega,by omega,hB.trans (ag _ _ _),HH⟩
  .have a1:R=none:=by
    rw[<-b5.out];exact Av (λj hj=>HA.out j hj (by rw[HN.out]at hj;omega))
   subst a1;go_wp2_with fail
   go_loopg [8] 0 (λmm ks wr'=>ks= .int .i64 0/\wr'=wr)
   case atStart=>exact⟨rfl,rfl⟩
   case round=>
    obtain⟨rfl,d6⟩:=hrel;rw[d6];go_wp2_with fail;go_ret;exact⟨rfl,a4⟩
end
end Go.Proofs.YtpfkkmacakjmbaaGreatDoor
