import Derived.Test.YtpfkkmacakjmbaaGreatDoorP04
set_option maxRecDepth 100000
set_option maxHeartbeats 6400000
set_option linter.all false
namespace Go.Proofs.YtpfkkmacakjmbaaGreatDoor
open Proofs.Tryz
section
open Go Go.RowKit Sp
attribute [local go_sem ↓] eY eZ
theorem Ba:(prog.info? 129).map (λi=>(i.zero,i.size,i.bytes))=some (some (.agg #[.int .u8 0,.int .u8 0]),2,2):=by kernel_rfl
section
variable (b:Nat) (s:ByteArray) (i:Nat) (src:Bool) (bi:Nat) (vc vt:Value) (w:World)
theorem F6 (aC:Option Addr) (n capC:Nat) (hn:n<=4) (hs:s.size<=2000) (hbi:b≠bi) (hR:RdB w b s i false src bi vc vt) (hI:ImB w bi (.slice aC n capC) S_ S_):
  Calls prog 77 #[.pointer (some ⟨b,0,none⟩)] w λen w'=>en= .returned (.tuple #[])/\But (λk=>k=b\/k=bi) w w'/\
   match fk s n 3 [] i with
   | .ok (gs,j)=>RdB w' b s j false src bi vc vt/\ ∃v,ImB w' bi (.slice aC n capC) v S_/\w'.ownsRow w.heap.size 129 2 v gs.length (dj gs)
   | .error j=>RdB w' b s j true src bi vc vt:=by
 obtain⟨R,P⟩: ∃R,fk s n 3 [] i=R:=⟨_,rfl⟩;rw[P];have a5:Hid (fk s n 3 [] i=R):=P;clear P;obtain⟨i0,b7,c8,c9,e0⟩:=info_parts Ba
 go_in
 go_wp2_with (go_at_call 127;refine(bO b s i false src bi vc vt _ hs hR).mono ?_;rintro en w' ⟨rfl,nn,rfl⟩)
 go_loopg [2] 4 (λm c wr=> ∃(i':Nat) (bad':Bool),c= .int .u8 (pk s i').toNat/\But (λk=>k=b\/k=bi) w wr/\RdB wr b s i' bad' src bi vc vt/\
  ((bad'=false/\ ∃f gs v,m=f+1/\f+List.length gs=3/\fk s n f gs i'=R/\ImB wr bi (.slice aC n capC) v S_/\wr.ownsRow w.heap.size 129 2 v gs.length (dj gs))\/(bad'=true/\m=0/\R= .error i')))
 case atStart=>exact⟨i,false,rfl,aH _ _ _,hR.drewN _,Or.inl ⟨rfl,3,[],_,rfl,rfl,a5.out,hI,cR _ _ _ _⟩⟩
 case round=>
  obtain⟨i',bad',rfl,L,a,S⟩:=hrel;have c1:=a.c1;have c2:=a.c2;have c4:=a.c4;have f1:=a.fz 1;have f2:=a.fz 2;obtain⟨rfl,f,gs,v,rfl,b4,a3,q,l⟩ | ⟨rfl,rfl,rfl⟩:=S
  .have HT:Hid (fk s n f gs i'=R):=a3;have b5:f+gs.length<=3:=by omega
   have b6:3<=f+gs.length:=by omega
   have blt:=a.lt;have bilt:=q.lt;clear a3 b4;obtain⟨ao,cap,rfl⟩:=ay l;have d1:=q.c1
   by_cases hpe:(pk s i').toNat=59
   · --the end
    have hi:i'<s.size:=iw (by omega);have b9:(((pk s i').toNat:Int)!=59)=false:=by rw[bne_eq_false_iff_eq];omega
    have d:R= .ok (gs,i'+1):=by rw[<-HT.out];cases f<;>simp[fk,hpe]
    subst d;clear HT hpe;go_wp2_with fail;go_end0;exact⟨rfl,L.trans ((aj _ _ _ _).mono (λ_ _ h=>Or.inl h)),a.inc,_,q.but (aj _ _ _ _) (λh=>hbi h.symm),ag l (aj _ _ _ _) (λg hg h=>by have:=aw l g hg;have:=hR.lt;omega)⟩
   .have b9:(((pk s i').toNat:Int)!=59)=true:=by rw[bne_iff_ne];omega
    have C:Hid (¬(pk s i').toNat=59):=hpe;clear hpe
    cases f with
    |zero=>
     have d:R= .error i':=by rw[<-HT.out];simp[fk,C.out]
     subst d;have a0:(3:Int)<=(gs.length:Int):=by omega
     clear HT;go_wp2_with fail;exact fY results77 rfl ⟨rfl,L.trans ((aj _ _ _ _).mono (λ_ _ h=>Or.inl h)),a.set2 true⟩
    |succ f=>
     have a0: ¬(3:Int)<=(gs.length:Int):=by omega
     cases ht1:cw n (pk s i')with
     |false=>
      have d:R= .error i':=by rw[<-HT.out];simp[fk,C.out,tyP,ht1]
      subst d;have T:Hid (cw n (pk s i')=false):=ht1;clear HT ht1;go_wp2_with fail;refine(yk b s i' src bi vc vt _ aC n capC _ _ hs q a T.out).mono ?_;rintro en w1 ⟨⟨c,rfl⟩,A,r⟩;have Y:=r.c2;clear c1 c2 c4 f1 f2 d1;go_wp2_with fail;exact fY results77 rfl ⟨rfl,L.next A (λ_ _ h=>Or.inl h),r⟩
     |true=>
      have T:Hid (cw n (pk s i')=true):=ht1;clear ht1;go_wp2_with fail;refine(A8 b s i' src bi vc vt _ aC n capC _ _ hs hn q a T.out).mono ?_;rintro en w1 ⟨rfl,A,r⟩;have G:=q.but A (λh=>hbi h.symm);have Y:=r.c2;clear c1 c2 c4 f1 f2 d1
      cases ht2:cw n (pk s (i'+1))with
      |false=>
       have d:R= .error (i'+1):=by rw[<-HT.out];simp[fk,C.out,tyP,T.out,ht2]
       subst d;have X:Hid (cw n (pk s (i'+1))=false):=ht2;clear HT ht2;go_wp2_with fail;refine(yk b s (i'+1) src bi vc vt _ aC n capC _ _ hs G r X.out).mono ?_;rintro en J ⟨⟨c,rfl⟩,D,B⟩;have Y:=B.c2;go_wp2_with fail;exact fY results77 rfl ⟨rfl,(L.next A (λ_ _ h=>Or.inl h)).next D (λ_ _ h=>Or.inl h),B⟩
      |true=>
       have X:Hid (cw n (pk s (i'+1))=true):=ht2;clear ht2;go_wp2_with fail;refine(A8 b s (i'+1) src bi vc vt _ aC n capC _ _ hs hn G r X.out).mono ?_;rintro en J ⟨rfl,D,B⟩;have a6:=G.but D (λh=>hbi h.symm);clear Y;have Y:=B.c2;go_wp2_with fail;refine(F5 b s (i'+1+1) src bi vc vt _ _ 46 rfl hs B (by decide)).mono ?_;rintro en W ⟨rfl,Z,j,z,Q,F⟩;have a4:Hid ((z=false/\mH s 46 (i'+1+1)= .ok j)\/(z=true/\mH s 46 (i'+1+1)= .error j)):=F;clear F;have e8:=L.size;have e5:=hR.lt;have b3:=hI.lt;have M:But (· =b) wr W:=(A.trans D).trans Z;have a2:But (λk=>k=b\/k=bi) w W:=L.next M (λ_ _ h=>Or.inl h);have H:ImB W bi (.slice aC n capC) (.slice ao gs.length cap) S_:=q.but M (λh=>hbi h.symm)
       have I:=ag l M (λg hg h=>by have:=aw l g hg;omega);have e7:=a2.size;have e1:=H.c1;have e4:=Q.c4;have g1:=H.fz 1;have bltW:=Q.lt;have biltW:=H.lt;have ab:(Value.slice ao gs.length cap).ownBlock≠some b:=λh=>by have:=aw I _ h;omega
       have abi:(Value.slice ao gs.length cap).ownBlock≠some bi:=λh=>by have:=aw I _ h;omega
       clear Y A D Z r B G a6;go_wp2_with fail;have b2:But (λk=>(Value.slice ao gs.length cap).ownBlock=some k) W W.drew:=aA _ _;refine aD (But (λk=>(Value.slice ao gs.length cap).ownBlock=some k) W) 16 ?_
       iterate 14 (refine aF (v:=?_) rfl b2 ?_ ?_;rotate_left;(focus (intro wS h;have q0:=((h.cell (p:=⟨b,4,none⟩) bltW ab).trans e4);have q1:=((h.cell (p:=⟨bi,1,none⟩) biltW abi).trans e1);clear h;go_simp;try rfl));dsimp only[Act.put];try simp only[bW])
       refine au rfl ?_;intro KS hKS;go_simp;refine hKS.out _ _ (λ_=>(aa _ _ _).trans (aA _ _)) ?_;clear hKS KS;refine au rfl ?_;intro KS hKS
       refine step_append_lies _ (by rfl) _ _ _ (by rfl) w.heap.size 129 i0 _ 2 2 Tryz.underlying41 b7 c8 c9 e0 rfl (by omega) _ gs.length (dj gs) (by rfl) ((I.alloc _).drew)
          ⟨W.heap.size,0,none⟩ 1 1 [.int .u8 (pk s i').toNat,.int .u8 (pk s (i'+1)).toNat] (by rfl) (by rfl) (iu (cs:=#[.int .u8 (pk s i').toNat,.int .u8 (pk s (i'+1)).toNat]) (t:=129) (fr:=(0,0)) (aO W _)) (by simp[Value.oneCell'])
          (by omega) (by unfold maxLen;omega) (by omega) (by simp;omega) (W.heap.size+1) (by simp) ?_
       intro gg e J y E e3 b8;have x:But (λk=>(Value.slice ao gs.length cap).ownBlock=some k) W J:=((aa _ _ _).trans (aA _ _)).trans (a8 E);refine hKS.out _ _ (λ_=>x) ?_;clear hKS KS;have y0:=(x.cell (p:=⟨bi,1,none⟩) biltW abi).trans e1;have y1:=(x.frozen (p:=⟨bi,1,none⟩) biltW abi).trans g1;refine au rfl ?_;intro KS hKS;go_simp;refine hKS.out _ _ nofun ?_;clear hKS KS;refine au rfl ?_;intro KS hKS;go_simp;refine hKS.out _ _ nofun ?_;clear hKS KS;refine au rfl ?_;intro KS hKS;go_simp;refine hKS.out _ _ nofun ?_;clear hKS KS;refine aI rfl ?_;have O:RdB (J.setCell ⟨bi,1,none⟩ (.slice (some ⟨gg,0,none⟩) (gs.length+1) e)) b s j z src bi vc vt:=(Q.but x ab).but (aj _ _ _ _) hbi
       have b0:ImB (J.setCell ⟨bi,1,none⟩ (.slice (some ⟨gg,0,none⟩) (gs.length+1) e)) bi (.slice aC n capC) (.slice (some ⟨gg,0,none⟩) (gs.length+1) e) S_:=(H.but x abi).set1 _;have e6:=aw y gg rfl;have b1:=ag y (aj J bi 1 (.slice (some ⟨gg,0,none⟩) (gs.length+1) e)) (λg hg h=>by have:=aw y g hg;omega)
       have a1:But (λk=>k=b\/k=bi) w (J.setCell ⟨bi,1,none⟩ (.slice (some ⟨gg,0,none⟩) (gs.length+1) e)):=
        (a2.next x (λk hk h=>absurd (aw I k h) (by omega))).next (aj _ _ _ _) (λ_ _ h=>Or.inr h)
       clear y0 y1 e1 e4 g1 x E;generalize (J.setCell ⟨bi,1,none⟩ (.slice (some ⟨gg,0,none⟩) (gs.length+1) e))=W3 at*;go_wp2_with (go_at_call 127;refine(bO b s j z src bi vc vt _ hs O).mono ?_;rintro en w' ⟨rfl,n3,rfl⟩);obtain⟨rfl,ht⟩ | ⟨rfl,ht⟩:=a4.out
       .go_roundg (f+1)
        case measure=>omega
        case rel=>
         refine⟨j,false,rfl,a1.next (aH (λ_=>False) _ _) (λ_ _ h=>h.elim),O.drewN _,Or.inl ⟨rfl,f,gs++ [⟨pk s i',pk s (i'+1)⟩],_,rfl,by simp;omega,?_,b0,?_⟩⟩
         .rw[<-HT.out];simp[fk,C.out,tyP,T.out,X.out,ht]
         .rw[mK,aN];exact b1
       .go_roundg 0
        case measure=>omega
        case rel=>
         refine⟨j,true,rfl,a1.next (aH (λ_=>False) _ _) (λ_ _ h=>h.elim),O.drewN _,Or.inr ⟨rfl,rfl,?_⟩⟩;rw[<-HT.out];simp[fk,C.out,tyP,T.out,X.out,ht]
  .go_wp2_with fail;go_end0;exact⟨rfl,L,a⟩
end
end
section
open Go Go.RowKit Sp
section
variable (b:Nat) (s:ByteArray) (i:Nat) (src:Bool) (bi:Nat) (vc vt:Value) (w:World)
structure dh (w:World) (base top bi:Nat) (cs:List Cls) (gs:List Sig) (v2:Value):Prop where
 wf:WfC cs
 nc:cs.length<=4
 ns:gs.length<=3
 im: ∃v0 v1,ImB w bi v0 v1 v2/\w.ownsRow base 203 2 v0 cs.length (dw cs)/\w.ownsRow base 129 2 v1 gs.length (dj gs)/\(∀g,v0.ownBlock=some g\/v1.ownBlock=some g->g<top)
theorem CY (base top:Nat) (cs:List Cls) (gs:List Sig) (v2:Value) (c nl:Nat) (hc:c<256) (hnl:nl<=5) (hs:s.size<=2000) (hbi:b≠bi) (hbb:b<base) (hR:RdB w b s i false src bi vc vt) (hH:dh w base top bi cs gs v2) (hv:c=108\/c=115):
  Calls prog 189 #[.pointer (some ⟨b,0,none⟩),.int .u8 c,.int .i64 nl] w λen w'=>But (· =b) w w'/\ ∃(x y:Int) (j:Nat) (bad:Bool),en= .returned (.tuple #[.int .i64 x,.int .i64 y])/\RdB w' b s j bad src bi vc vt/\((bad=false/\ ∃a d:Nat,x=a/\y=d/\ba s cs gs.length nl c i= .ok (a,d,j))\/(bad=true/\ba s cs gs.length nl c i= .error j)):=by
 obtain⟨z,r,t,v0,v1,n,q,m,_⟩:=hH;obtain⟨a0,cap0,rfl⟩:=ay q;obtain⟨a1,cap1,rfl⟩:=ay m;have c2:=hR.c2;have c4:=hR.c4;have d0:=n.c0;have d1:=n.c1;obtain hv|hv:=hv
 .have l:((c:Int)==108)=true:=by rw[aX];omega
  have k:Hid (c=108):=hv;clear hv
  go_in
  go_wp2_with fail;refine(dD b s i src bi vc vt _ _ nl rfl hs hR).mono ?_;rintro en w1 ⟨f,v,j,bad,rfl,g,e⟩;go_wp2_with fail
  go_ret2
  refine⟨f,0,v,j,bad,rfl,g,?_⟩;obtain⟨rfl,d,rfl,_,h⟩ | ⟨rfl,h⟩:=e
  .exact Or.inl ⟨rfl,0,d,rfl,rfl,by simp[ba,k.out,h]⟩
  .exact Or.inr ⟨rfl,by simp[ba,k.out,h]⟩
 .have l:=tf c 108 (by omega);have p:((c:Int)==115)=true:=by rw[aX];omega
  have k:Hid (c=115):=hv;clear hv
  go_in
  go_wp2_with fail;refine(dD b s i src bi vc vt _ _ nl rfl hs hR).mono ?_;rintro en w1 ⟨f,v,j,bad,rfl,g,e⟩;go_wp2_with fail
  go_ret2
  refine⟨f,0,v,j,bad,rfl,g,?_⟩;obtain⟨rfl,d,rfl,_,h⟩ | ⟨rfl,h⟩:=e
  .exact Or.inl ⟨rfl,0,d,rfl,rfl,by simp[ba,k.out,h]⟩
  .exact Or.inr ⟨rfl,by simp[ba,k.out,h]⟩
theorem Ec (base top:Nat) (cs:List Cls) (gs:List Sig) (v2:Value) (c nl:Nat) (hc:c<256) (hnl:nl<=5) (hs:s.size<=2000) (hbi:b≠bi) (hbb:b<base) (hR:RdB w b s i false src bi vc vt) (hH:dh w base top bi cs gs v2) (hv:c=107):
  Calls prog 189 #[.pointer (some ⟨b,0,none⟩),.int .u8 c,.int .i64 nl] w λen w'=>But (· =b) w w'/\ ∃(x y:Int) (j:Nat) (bad:Bool),en= .returned (.tuple #[.int .i64 x,.int .i64 y])/\RdB w' b s j bad src bi vc vt/\((bad=false/\ ∃a d:Nat,x=a/\y=d/\ba s cs gs.length nl c i= .ok (a,d,j))\/(bad=true/\ba s cs gs.length nl c i= .error j)):=by
 obtain⟨A,t,z,v0,v1,m,r,g,_⟩:=hH;obtain⟨a0,cap0,rfl⟩:=ay r;obtain⟨a1,cap1,rfl⟩:=ay g;have c2:=hR.c2;have c4:=hR.c4;have d0:=m.c0;have d1:=m.c1;have p:=tf c 108 (by omega);have q:=tf c 115 (by omega);have n:((c:Int)==107)=true:=by rw[aX];omega
 have l:Hid (c=107):=hv;clear hv
 go_in
 go_wp2_with fail;refine(dD b s i src bi vc vt _ _ 10 rfl hs hR).mono ?_;rintro en w1 ⟨f,v,j,bad,rfl,h,e⟩;go_wp2_with fail
 go_ret2
 refine⟨f,0,v,j,bad,rfl,h,?_⟩;obtain⟨rfl,d,rfl,_,k⟩ | ⟨rfl,k⟩:=e
 .exact Or.inl ⟨rfl,0,d,rfl,rfl,by simp[ba,l.out,k]⟩
 .exact Or.inr ⟨rfl,by simp[ba,l.out,k]⟩
theorem CZ (base top:Nat) (cs:List Cls) (gs:List Sig) (v2:Value) (c nl:Nat) (hc:c<256) (hnl:nl<=5) (hs:s.size<=2000) (hbi:b≠bi) (hbb:b<base) (hR:RdB w b s i false src bi vc vt) (hH:dh w base top bi cs gs v2) (hv:c=110\/c=120):
  Calls prog 189 #[.pointer (some ⟨b,0,none⟩),.int .u8 c,.int .i64 nl] w λen w'=>But (· =b) w w'/\ ∃(x y:Int) (j:Nat) (bad:Bool),en= .returned (.tuple #[.int .i64 x,.int .i64 y])/\RdB w' b s j bad src bi vc vt/\((bad=false/\ ∃a d:Nat,x=a/\y=d/\ba s cs gs.length nl c i= .ok (a,d,j))\/(bad=true/\ba s cs gs.length nl c i= .error j)):=by
 obtain⟨C,l,B,v0,v1,t,A,r,_⟩:=hH;obtain⟨a0,cap0,rfl⟩:=ay A;obtain⟨a1,cap1,rfl⟩:=ay r;have c2:=hR.c2;have c4:=hR.c4;have d0:=t.c0;have d1:=t.c1;obtain hv|hv:=hv
 .have n:=tf c 108 (by omega);have q:=tf c 115 (by omega);have m:=tf c 107 (by omega);have p:((c:Int)==110)=true:=by rw[aX];omega
  have k:Hid (c=110):=hv;clear hv
  go_in
  go_wp2_with fail;refine(gH b s i src bi vc vt _ _ cs.length rfl l hs hR).mono ?_;rintro en w1 ⟨f,v,j,bad,rfl,g,e⟩;go_wp2_with fail
  go_ret2
  refine⟨f,v,0,j,bad,rfl,g,?_⟩;obtain⟨rfl,d,rfl,_,h⟩ | ⟨rfl,h⟩:=e
  .exact Or.inl ⟨rfl,d,0,rfl,rfl,by simp[ba,k.out,h]⟩
  .exact Or.inr ⟨rfl,by simp[ba,k.out,h]⟩
 .have n:=tf c 108 (by omega);have q:=tf c 115 (by omega);have m:=tf c 107 (by omega);have p:=tf c 110 (by omega);have z:((c:Int)==120)=true:=by rw[aX];omega
  have k:Hid (c=120):=hv;clear hv
  go_in
  go_wp2_with fail;refine(gH b s i src bi vc vt _ _ cs.length rfl l hs hR).mono ?_;rintro en w1 ⟨f,v,j,bad,rfl,g,e⟩;go_wp2_with fail
  go_ret2
  refine⟨f,v,0,j,bad,rfl,g,?_⟩;obtain⟨rfl,d,rfl,_,h⟩ | ⟨rfl,h⟩:=e
  .exact Or.inl ⟨rfl,d,0,rfl,rfl,by simp[ba,k.out,h]⟩
  .exact Or.inr ⟨rfl,by simp[ba,k.out,h]⟩
theorem C0 (base top:Nat) (cs:List Cls) (gs:List Sig) (v2:Value) (c nl:Nat) (hc:c<256) (hnl:nl<=5) (hs:s.size<=2000) (hbi:b≠bi) (hbb:b<base) (hR:RdB w b s i false src bi vc vt) (hH:dh w base top bi cs gs v2) (hv:c=103\/c=112):
  Calls prog 189 #[.pointer (some ⟨b,0,none⟩),.int .u8 c,.int .i64 nl] w λen w'=>But (· =b) w w'/\ ∃(x y:Int) (j:Nat) (bad:Bool),en= .returned (.tuple #[.int .i64 x,.int .i64 y])/\RdB w' b s j bad src bi vc vt/\((bad=false/\ ∃a d:Nat,x=a/\y=d/\ba s cs gs.length nl c i= .ok (a,d,j))\/(bad=true/\ba s cs gs.length nl c i= .error j)):=by
 obtain⟨a3,H,a2,v0,v1,Q,E,S,_⟩:=hH;obtain⟨a0,cap0,rfl⟩:=ay E;obtain⟨a1,cap1,rfl⟩:=ay S;have c2:=hR.c2;have c4:=hR.c4;have d0:=Q.c0;have d1:=Q.c1;obtain hv|hv:=hv
 .have L:=tf c 108 (by omega);have O:=tf c 115 (by omega);have J:=tf c 107 (by omega);have M:=tf c 110 (by omega);have P:=tf c 120 (by omega);have I:((c:Int)==103)=true:=by rw[aX];omega
  have t:Hid (c=103):=hv;clear hv
  go_in
  go_wp2_with fail;refine(gH b s i src bi vc vt _ _ cs.length rfl H hs hR).mono ?_;rintro en w1 ⟨f,v,j,bad,rfl,k,e⟩;have Z:=k.c2;have e4:=k.c4;have n:=Q.but f (λh=>hbi h.symm);have g0:=n.c0;have g1:=n.c1;clear c2 c4 d0 d1;obtain⟨rfl,d,rfl,C,p⟩ | ⟨rfl,p⟩:=e
  .have r:Hid (fj s cs.length i= .ok (d,j)):=p;clear p;have ha:=aG C;obtain⟨ga,capa,q,T,F,G⟩:=jC (ag E f (λg hg h=>by have:=aw E g hg;omega)) (ic ha);have B:a0=some ⟨ga,0,none⟩:=by injection q
   subst B;have X:(d:Int)<(cs.length:Int):=by omega
   have D:bB cs d=cs[d].fields.length:=by simp[bB,ha]
   clear q;go_wp2_with fail;refine(dD b s j src bi vc vt _ _ (bB cs d) (by rw[D]) hs k).mono ?_;rintro en w2 ⟨z,v,l,bad,rfl,A,e⟩;go_wp2_with fail
   go_ret2
   refine⟨f.trans z,d,v,l,bad,rfl,A,?_⟩;obtain⟨rfl,d2,rfl,_,m⟩ | ⟨rfl,m⟩:=e
   .exact Or.inl ⟨rfl,d,d2,rfl,rfl,by simp[ba,t.out,r.out,m]⟩
   .exact Or.inr ⟨rfl,by simp[ba,t.out,r.out,m]⟩
  .have r:Hid (fj s cs.length i= .error j):=p;clear p;go_wp2_with fail
   go_ret2
   exact⟨f,_,_,j,true,rfl,k,Or.inr ⟨rfl,by simp[ba,t.out,r.out]⟩⟩
 .have L:=tf c 108 (by omega);have O:=tf c 115 (by omega);have J:=tf c 107 (by omega);have M:=tf c 110 (by omega);have P:=tf c 120 (by omega);have I:=tf c 103 (by omega);have Y:((c:Int)==112)=true:=by rw[aX];omega
  have t:Hid (c=112):=hv;clear hv
  go_in
  go_wp2_with fail;refine(gH b s i src bi vc vt _ _ cs.length rfl H hs hR).mono ?_;rintro en w1 ⟨f,v,j,bad,rfl,k,e⟩;have Z:=k.c2;have e4:=k.c4;have n:=Q.but f (λh=>hbi h.symm);have g0:=n.c0;have g1:=n.c1;clear c2 c4 d0 d1;obtain⟨rfl,d,rfl,C,p⟩ | ⟨rfl,p⟩:=e
  .have r:Hid (fj s cs.length i= .ok (d,j)):=p;clear p;have ha:=aG C;obtain⟨ga,capa,q,T,F,G⟩:=jC (ag E f (λg hg h=>by have:=aw E g hg;omega)) (ic ha);have B:a0=some ⟨ga,0,none⟩:=by injection q
   subst B;have X:(d:Int)<(cs.length:Int):=by omega
   have D:bB cs d=cs[d].fields.length:=by simp[bB,ha]
   clear q;go_wp2_with fail;refine(dD b s j src bi vc vt _ _ (bB cs d) (by rw[D]) hs k).mono ?_;rintro en w2 ⟨z,v,l,bad,rfl,A,e⟩;go_wp2_with fail
   go_ret2
   refine⟨f.trans z,d,v,l,bad,rfl,A,?_⟩;obtain⟨rfl,d2,rfl,_,m⟩ | ⟨rfl,m⟩:=e
   .exact Or.inl ⟨rfl,d,d2,rfl,rfl,by simp[ba,t.out,r.out,m]⟩
   .exact Or.inr ⟨rfl,by simp[ba,t.out,r.out,m]⟩
  .have r:Hid (fj s cs.length i= .error j):=p;clear p;go_wp2_with fail
   go_ret2
   exact⟨f,_,_,j,true,rfl,k,Or.inr ⟨rfl,by simp[ba,t.out,r.out]⟩⟩
theorem Ed (base top:Nat) (cs:List Cls) (gs:List Sig) (v2:Value) (c nl:Nat) (hc:c<256) (hnl:nl<=5) (hs:s.size<=2000) (hbi:b≠bi) (hbb:b<base) (hR:RdB w b s i false src bi vc vt) (hH:dh w base top bi cs gs v2) (hv:c=99):
  Calls prog 189 #[.pointer (some ⟨b,0,none⟩),.int .u8 c,.int .i64 nl] w λen w'=>But (· =b) w w'/\ ∃(x y:Int) (j:Nat) (bad:Bool),en= .returned (.tuple #[.int .i64 x,.int .i64 y])/\RdB w' b s j bad src bi vc vt/\((bad=false/\ ∃a d:Nat,x=a/\y=d/\ba s cs gs.length nl c i= .ok (a,d,j))\/(bad=true/\ba s cs gs.length nl c i= .error j)):=by
 obtain⟨O,B,M,v0,v1,t,J,z,_⟩:=hH;obtain⟨a0,cap0,rfl⟩:=ay J;obtain⟨a1,cap1,rfl⟩:=ay z;have c2:=hR.c2;have c4:=hR.c4;have d0:=t.c0;have d1:=t.c1;have E:=tf c 108 (by omega);have H:=tf c 115 (by omega);have D:=tf c 107 (by omega);have F:=tf c 110 (by omega);have I:=tf c 120 (by omega);have C:=tf c 103 (by omega);have G:=tf c 112 (by omega);have P:((c:Int)==99)=true:=by rw[aX];omega
 have q:Hid (c=99):=hv;clear hv
 go_in
 go_wp2_with fail;refine(gH b s i src bi vc vt _ _ cs.length rfl B hs hR).mono ?_;rintro en w1 ⟨g,v,j,bad,rfl,f,e⟩;have Q:=f.c2;have S:=f.c4;have m:=t.but g (λh=>hbi h.symm);have T:=m.c0;have X:=m.c1;clear c2 c4 d0 d1;obtain⟨rfl,d,rfl,L,n⟩ | ⟨rfl,n⟩:=e
 .have p:Hid (fj s cs.length i= .ok (d,j)):=n;clear n;go_wp2_with fail;refine(dD b s j src bi vc vt _ _ gs.length rfl hs f).mono ?_;rintro en Y ⟨r,v,l,bad,rfl,A,e⟩;go_wp2_with fail
  go_ret2
  refine⟨g.trans r,d,v,l,bad,rfl,A,?_⟩;obtain⟨rfl,d2,rfl,_,k⟩ | ⟨rfl,k⟩:=e
  .exact Or.inl ⟨rfl,d,d2,rfl,rfl,by simp[ba,q.out,p.out,k]⟩
  .exact Or.inr ⟨rfl,by simp[ba,q.out,p.out,k]⟩
 .have p:Hid (fj s cs.length i= .error j):=n;clear n;go_wp2_with fail
  go_ret2
  exact⟨g,_,_,j,true,rfl,f,Or.inr ⟨rfl,by simp[ba,q.out,p.out]⟩⟩
theorem C1 (base top:Nat) (cs:List Cls) (gs:List Sig) (v2:Value) (c nl:Nat) (hc:c<256) (hnl:nl<=5) (hs:s.size<=2000) (hbi:b≠bi) (hbb:b<base) (hR:RdB w b s i false src bi vc vt) (hH:dh w base top bi cs gs v2) (hv:c=106\/c=102):
  Calls prog 189 #[.pointer (some ⟨b,0,none⟩),.int .u8 c,.int .i64 nl] w λen w'=>But (· =b) w w'/\ ∃(x y:Int) (j:Nat) (bad:Bool),en= .returned (.tuple #[.int .i64 x,.int .i64 y])/\RdB w' b s j bad src bi vc vt/\((bad=false/\ ∃a d:Nat,x=a/\y=d/\ba s cs gs.length nl c i= .ok (a,d,j))\/(bad=true/\ba s cs gs.length nl c i= .error j)):=by
 obtain⟨a3,Z,a2,v0,v1,J,Y,L,_⟩:=hH;obtain⟨a0,cap0,rfl⟩:=ay Y;obtain⟨a1,cap1,rfl⟩:=ay L;have c2:=hR.c2;have c4:=hR.c4;have d0:=J.c0;have d1:=J.c1;obtain hv|hv:=hv
 .have E:=tf c 108 (by omega);have H:=tf c 115 (by omega);have D:=tf c 107 (by omega);have F:=tf c 110 (by omega);have I:=tf c 120 (by omega);have B:=tf c 103 (by omega);have G:=tf c 112 (by omega);have O:=tf c 99 (by omega);have C:((c:Int)==106)=true:=by rw[aX];omega
  have z:Hid (c=106):=hv;clear hv
  go_in
  go_wp2_with fail;refine(dD b s i src bi vc vt _ _ 10 rfl hs hR).mono ?_;rintro en w1 ⟨g,v,j,bad,rfl,k,e⟩;have Q:=k.c2;have S:=k.c4;have p:=J.but g (λh=>hbi h.symm);have T:=p.c0;have X:=p.c1;clear c2 c4 d0 d1;obtain⟨rfl,d,rfl,M,r⟩ | ⟨rfl,r⟩:=e
  .have t:Hid (eB s 10 i= .ok (d,j)):=r;clear r;go_wp2_with fail;refine(dD b s j src bi vc vt _ _ 10 rfl hs k).mono ?_;rintro en w2 ⟨n,v,l,bad,rfl,q,e⟩;obtain⟨rfl,d2,rfl,A,f⟩ | ⟨rfl,f⟩:=e
   .have m:Hid (eB s 10 j= .ok (d2,l)):=f;clear f;go_wp2_with fail
    go_ret2
    exact⟨g.trans n,0,10*(d:Int)+d2,l,false,rfl,q,Or.inl ⟨rfl,0,10*d+d2,rfl,by simp,by simp[ba,z.out,t.out,m.out]⟩⟩
   .have m:Hid (eB s 10 j= .error l):=f;clear f;go_wp2_with fail
    go_ret2
    exact⟨g.trans n,0,_,l,true,rfl,q,Or.inr ⟨rfl,by simp[ba,z.out,t.out,m.out]⟩⟩
  .have t:Hid (eB s 10 i= .error j):=r;clear r;go_wp2_with fail
   go_ret2
   exact⟨g,_,_,j,true,rfl,k,Or.inr ⟨rfl,by simp[ba,z.out,t.out]⟩⟩
 .have E:=tf c 108 (by omega);have H:=tf c 115 (by omega);have D:=tf c 107 (by omega);have F:=tf c 110 (by omega);have I:=tf c 120 (by omega);have B:=tf c 103 (by omega);have G:=tf c 112 (by omega);have O:=tf c 99 (by omega);have C:=tf c 106 (by omega);have P:((c:Int)==102)=true:=by rw[aX];omega
  have z:Hid (c=102):=hv;clear hv
  go_in
  go_wp2_with fail;refine(dD b s i src bi vc vt _ _ 10 rfl hs hR).mono ?_;rintro en w1 ⟨g,v,j,bad,rfl,k,e⟩;have Q:=k.c2;have S:=k.c4;have p:=J.but g (λh=>hbi h.symm);have T:=p.c0;have X:=p.c1;clear c2 c4 d0 d1;obtain⟨rfl,d,rfl,M,r⟩ | ⟨rfl,r⟩:=e
  .have t:Hid (eB s 10 i= .ok (d,j)):=r;clear r;go_wp2_with fail;refine(dD b s j src bi vc vt _ _ 10 rfl hs k).mono ?_;rintro en w2 ⟨n,v,l,bad,rfl,q,e⟩;obtain⟨rfl,d2,rfl,A,f⟩ | ⟨rfl,f⟩:=e
   .have m:Hid (eB s 10 j= .ok (d2,l)):=f;clear f;go_wp2_with fail
    go_ret2
    exact⟨g.trans n,0,10*(d:Int)+d2,l,false,rfl,q,Or.inl ⟨rfl,0,10*d+d2,rfl,by simp,by simp[ba,z.out,t.out,m.out]⟩⟩
   .have m:Hid (eB s 10 j= .error l):=f;clear f;go_wp2_with fail
    go_ret2
    exact⟨g.trans n,0,_,l,true,rfl,q,Or.inr ⟨rfl,by simp[ba,z.out,t.out,m.out]⟩⟩
  .have t:Hid (eB s 10 i= .error j):=r;clear r;go_wp2_with fail
   go_ret2
   exact⟨g,_,_,j,true,rfl,k,Or.inr ⟨rfl,by simp[ba,z.out,t.out]⟩⟩
theorem C2 (base top:Nat) (cs:List Cls) (gs:List Sig) (v2:Value) (c nl:Nat) (hc:c<256) (hnl:nl<=5) (hs:s.size<=2000) (hbi:b≠bi) (hbb:b<base) (hR:RdB w b s i false src bi vc vt) (hH:dh w base top bi cs gs v2) (hv:c≠108/\c≠115/\c≠107/\c≠110/\c≠120/\c≠103/\c≠112/\c≠99/\c≠106/\c≠102):
  Calls prog 189 #[.pointer (some ⟨b,0,none⟩),.int .u8 c,.int .i64 nl] w λen w'=>But (· =b) w w'/\ ∃(x y:Int) (j:Nat) (bad:Bool),en= .returned (.tuple #[.int .i64 x,.int .i64 y])/\RdB w' b s j bad src bi vc vt/\((bad=false/\ ∃a d:Nat,x=a/\y=d/\ba s cs gs.length nl c i= .ok (a,d,j))\/(bad=true/\ba s cs gs.length nl c i= .error j)):=by
 obtain⟨B,z,A,v0,v1,f,v,e,_⟩:=hH;obtain⟨a0,cap0,rfl⟩:=ay v;obtain⟨a1,cap1,rfl⟩:=ay e;have c2:=hR.c2;have c4:=hR.c4;have d0:=f.c0;have d1:=f.c1;have m:=tf c 108 (by omega);have q:=tf c 115 (by omega);have l:=tf c 107 (by omega);have n:=tf c 110 (by omega);have r:=tf c 120 (by omega);have h:=tf c 103 (by omega);have p:=tf c 112 (by omega);have C:=tf c 99 (by omega);have k:=tf c 106 (by omega);have g:=tf c 102 (by omega);have t:Hid (c≠108/\c≠115/\c≠107/\c≠110/\c≠120/\c≠103/\c≠112/\c≠99/\c≠106/\c≠102):=hv;clear hv
 go_in
 go_wp2_with fail
 go_ret2
 have hv:=t.out;exact⟨bf _ _,0,0,i,false,rfl,hR,Or.inl ⟨rfl,0,0,rfl,rfl,by simp[ba,hv.1,hv.2.1,hv.2.2.1,hv.2.2.2.1,hv.2.2.2.2.1,hv.2.2.2.2.2.1,hv.2.2.2.2.2.2.1,hv.2.2.2.2.2.2.2.1,hv.2.2.2.2.2.2.2.2.1,hv.2.2.2.2.2.2.2.2.2]⟩⟩
theorem F7 (base top:Nat) (cs:List Cls) (gs:List Sig) (v2:Value) (c nl:Nat) (hc:c<256) (hnl:nl<=5) (hs:s.size<=2000) (hbi:b≠bi) (hbb:b<base) (hR:RdB w b s i false src bi vc vt) (hH:dh w base top bi cs gs v2):
 Calls prog 189 #[.pointer (some ⟨b,0,none⟩),.int .u8 c,.int .i64 nl] w λen w'=>But (· =b) w w'/\ ∃(x y:Int) (j:Nat) (bad:Bool),en= .returned (.tuple #[.int .i64 x,.int .i64 y])/\RdB w' b s j bad src bi vc vt/\((bad=false/\ ∃a d:Nat,x=a/\y=d/\ba s cs gs.length nl c i= .ok (a,d,j))\/(bad=true/\ba s cs gs.length nl c i= .error j)):=by
 by_cases h1:c=108\/c=115
 .exact CY b s i src bi vc vt w base top cs gs v2 c nl hc hnl hs hbi hbb hR hH h1
 by_cases h2:c=107
 .exact Ec b s i src bi vc vt w base top cs gs v2 c nl hc hnl hs hbi hbb hR hH h2
 by_cases h3:c=110\/c=120
 .exact CZ b s i src bi vc vt w base top cs gs v2 c nl hc hnl hs hbi hbb hR hH h3
 by_cases h4:c=103\/c=112
 .exact C0 b s i src bi vc vt w base top cs gs v2 c nl hc hnl hs hbi hbb hR hH h4
 by_cases h5:c=99
 .exact Ed b s i src bi vc vt w base top cs gs v2 c nl hc hnl hs hbi hbb hR hH h5
 by_cases h6:c=106\/c=102
 .exact C1 b s i src bi vc vt w base top cs gs v2 c nl hc hnl hs hbi hbb hR hH h6
 exact C2 b s i src bi vc vt w base top cs gs v2 c nl hc hnl hs hbi hbb hR hH (by omega)
end
theorem rS (l:L_) (k:Nat) (p:UInt8->Bool) (h:k<l.length):(l.take (k+1)).any p=((l.take k).any p||p l[k]):=by
 rw[f7 h,List.any_append];simp
theorem EY (s:ByteArray) (k:Nat) (h:k<s.size) (h':k<s.data.toList.length):s.data.toList[k]=s[k]:=Array.getElem_toList (xs:=s.data) (i:=k) h
theorem blen (s:ByteArray):s.data.toList.length=s.size:=Array.length_toList
theorem sq (s:ByteArray) (c:Nat) (w:World) (hs:s.size<=2000):
  Calls prog 186 #[.int .u8 c,.string s] w λen w'=>en= .returned (.bool (s.data.toList.any λx=>x.toNat==c))/\w'=w:=by
 obtain⟨bb,b⟩: ∃bb,(s.data.toList.any λx=>x.toNat==c)=bb:=⟨_,rfl⟩;rw[b];have e:Hid ((s.data.toList.any λx=>x.toNat==c)=bb):=b;clear b
 go_in
 go_wp2
 go_loop [5] (λt=> ∃k:Nat,k<=s.size/\t= .int .i64 k/\Hid ((s.data.toList.take k).any (λx=>x.toNat==c)=false)) (λt=>s.size-(intOf t).toNat)
 case atStart=>exact⟨0,Nat.zero_le _,rfl,by show _=_;simp⟩
 case round=>
  obtain⟨k,h,rfl,d⟩:=hrel
  by_cases hlt:k<s.size
  .by_cases he:s[k].toNat=c
   .have g:((s[k].toNat:Int)==(c:Int))=true:=by rw[aX];omega
    have a:bb=true:=by
     rw[<-e.out,List.any_eq_true];exact⟨s[k],by rw[<-EY s k hlt (by rw[blen];exact hlt)];exact bD _,by simp[he]⟩
    subst a;clear he
    go_wp2
    go_ret;exact⟨rfl,rfl⟩
   .have g:((s[k].toNat:Int)==(c:Int))=false:=by rw[eu];omega
    have f:Hid ((s.data.toList.take (k+1)).any (λx=>x.toNat==c)=false):=by
     show _=_
     rw[rS _ _ _ (by rw[blen];exact hlt),d.out,EY s k hlt];simp[he]
    clear he
    go_wp2
    go_round
    case rel=>exact⟨k+1,by omega,by go_num,f⟩
    case measure=>simp[intOf];omega
  .have a:bb=false:=by
    have:=d.out;rw[fd (by rw[blen];omega)]at this;rw[<-e.out,this]
   subst a
   go_wp2
   go_ret;exact⟨rfl,rfl⟩
def lL:L_:=[107,114,119,108,115,43,45,42,47,60,61,101,110,122,103,112,99,120,100,106,102,116]
theorem pO:lL.map (λx=>x.toNat)=cE:=by decide
theorem pP (c:Nat):(lL.any λx=>x.toNat==c)=cE.contains c:=by
 rw[<-pO,List.contains_eq_any_beq,List.any_map]
 congr 1
 funext x
 exact Bool.beq_comm
theorem jK (c:Nat) (w:World):
  Calls prog 186 #[.int .u8 c,.string ⟨#[107,114,119,108,115,43,45,42,47,60,61,101,110,122,103,112,99,120,100,106,102,116]⟩] w λen w'=>en= .returned (.bool (cE.contains c))/\w'=w:=by
 rw[<-pP];exact sq ⟨lL.toArray⟩ c w (by decide)
theorem Bb:(prog.info? 144).map (λi=>(i.zero,i.size,i.bytes))=some (some (.agg #[.int .u8 0,.int .i64 0,.int .i64 0,.int .i64 0]),4,32):=by kernel_rfl
theorem dh.but {F:Nat->Prop} {w w':World} {base top bi:Nat} {cs:List Cls} {gs:List Sig} {v2:Value} (h:dh w base top bi cs gs v2) (hb:But F w w') (hbi: ¬F bi) (hF: ∀k,F k->k<base\/top<=k):dh w' base top bi cs gs v2:=by
 obtain⟨c,d,e,v0,v1,f,b,a,ht⟩:=h;exact⟨c,d,e,v0,v1,f.but hb hbi,ag b hb (λg hg h=>by have:=aw b g hg;have:=hF g h;have:=ht g (Or.inl hg);omega),ag a hb (λg hg h=>by have:=aw a g hg;have:=hF g h;have:=ht g (Or.inr hg);omega),ht⟩
section
variable (b:Nat) (s:ByteArray) (i:Nat) (src:Bool) (bi:Nat) (vt:Value) (w:World)
theorem Bc (base top:Nat) (cs:List Cls) (gs:List Sig) (v2:Value) (nl:Nat) (hnl:nl<=5) (hs:s.size<=2000) (hbi:b≠bi) (hbb:b<base) (hR:RdB w b s i false src bi S_ vt) (hH:dh w base top bi cs gs v2):
  Calls prog 134 #[.pointer (some ⟨b,0,none⟩),.int .i64 nl] w λen w'=>en= .returned (.tuple #[])/\But (· =b) w w'/\
   ∃j bad vc,RdB w' b s j bad src bi vc vt/\((bad=false/\ ∃is:List Ins,eD s cs gs.length nl 100 [] i= .ok (is,j+1)/\(pk s j).toNat=46/\is.length<=100/\w'.ownsRow w.heap.size 144 4 vc is.length (dx is))\/(bad=true/\eD s cs gs.length nl 100 [] i= .error j)):=by
 obtain⟨R,M⟩: ∃R,eD s cs gs.length nl 100 [] i=R:=⟨_,rfl⟩;rw[M];have a0:Hid (eD s cs gs.length nl 100 [] i=R):=M;clear M;obtain⟨i0,b1,b5,b6,b7⟩:=info_parts Bb
 go_in
 go_wp2_with (go_at_call 127;refine(bO b s i false src bi _ vt _ hs hR).mono ?_;rintro en w' ⟨rfl,nn,rfl⟩)
 go_loopg [4] 101 (λm c wr=> ∃(i':Nat) (bad':Bool) (vc:Value),c= .int .u8 (pk s i').toNat/\But (· =b) w wr/\RdB wr b s i' bad' src bi vc vt/\
  ((bad'=false/\ ∃f is,m=f+1/\f+List.length is=100/\eD s cs gs.length nl f is i'=R/\wr.ownsRow w.heap.size 144 4 vc is.length (dx is))\/(bad'=true/\m=0/\R= .error i')))
 case atStart=>exact⟨i,false,_,rfl,aH _ _ _,hR.drewN _,Or.inl ⟨rfl,100,[],rfl,rfl,a0.out,cR _ _ _ _⟩⟩
 case round=>
  obtain⟨i',bad',vc,rfl,E,l,q⟩:=hrel;have c1:=l.c1;have c2:=l.c2;have c5:=l.c5;have f1:=l.fz 1;have f2:=l.fz 2;obtain⟨rfl,f,is,rfl,a5,X,v⟩ | ⟨rfl,rfl,rfl⟩:=q
  .have HT:Hid (eD s cs gs.length nl f is i'=R):=X;have a6:f+is.length<=100:=by omega
   have b0:100<=f+is.length:=by omega
   have blt:=l.lt;clear X a5;obtain⟨ao,cap,rfl⟩:=ay v
   by_cases hpe:(pk s i').toNat=46/\is≠ []
   · --the end
    have H:(((pk s i').toNat:Int)!=46)=false:=by rw[bne_eq_false_iff_eq];omega
    have G:0<is.length:=List.length_pos_iff.2 hpe.2;have b2:=tf is.length 0 (by omega);have n:R= .ok (is,i'+1):=by rw[<-HT.out];cases f<;>simp[eD,hpe]
    have HP:Hid ((pk s i').toNat=46):=hpe.1;subst n;clear HT hpe;go_wp2_with fail;go_end0;exact⟨rfl,E,i',false,_,l,Or.inl ⟨rfl,is,rfl,HP.out,by omega,v⟩⟩
   .have z:Hid (¬((pk s i').toNat=46/\is≠ [])):=hpe;clear hpe
    cases f with
    |zero=>
     have n:R= .error i':=by rw[<-HT.out];simp only[eD,if_neg z.out]
     subst n;have T:(100:Int)<=(is.length:Int):=by omega
     have G:is≠ []:=List.length_pos_iff.1 (by omega)
     have H:(((pk s i').toNat:Int)!=46)=true:=by
      rw[bne_iff_ne];intro h;exact z.out ⟨by omega,G⟩
     clear HT G
     cases hk:cE.contains (pk s i').toNat with
     |true=>
      go_wp2_with (go_at_call 186;refine(jK (pk s i').toNat _).mono ?_;rw[hk];rintro en wx ⟨rfl,e⟩;rw[e];clear e wx);exact fY results134 rfl ⟨rfl,E.trans (aj _ _ _ _),i',true,_,l.set2 true,Or.inr ⟨rfl,rfl⟩⟩
     |false=>
      go_wp2_with (go_at_call 186;refine(jK (pk s i').toNat _).mono ?_;rw[hk];rintro en wx ⟨rfl,e⟩;rw[e];clear e wx);exact fY results134 rfl ⟨rfl,E.trans (aj _ _ _ _),i',true,_,l.set2 true,Or.inr ⟨rfl,rfl⟩⟩
    |succ f=>
     have T: ¬(100:Int)<=(is.length:Int):=by omega
     cases hk:cE.contains (pk s i').toNat with
     |false=>
      have n:R= .error i':=by rw[<-HT.out];simp only[eD,if_neg z.out,oI,hk];rfl
      subst n
      have q:(((pk s i').toNat:Int)!=46)=true\/((((pk s i').toNat:Int)!=46)=false/\((is.length:Int)==0)=true):=by
       by_cases h:(pk s i').toNat=46
       .right
        refine⟨by rw[bne_eq_false_iff_eq];omega,?_⟩;have:is=[]:=Classical.byContradiction λh'=>z.out ⟨h,h'⟩
        rw[this];rfl
       .left;rw[bne_iff_ne];omega
      clear HT;obtain H| ⟨H,G⟩:=q
      .go_wp2_with (go_at_call 186;refine(jK (pk s i').toNat _).mono ?_;rw[hk];rintro en wx ⟨rfl,e⟩;rw[e];clear e wx);exact fY results134 rfl ⟨rfl,E.trans (aj _ _ _ _),i',true,_,l.set2 true,Or.inr ⟨rfl,rfl⟩⟩
      .have b3:((0:Int)==0)=true:=rfl;go_wp2_with (go_at_call 186;refine(jK (pk s i').toNat _).mono ?_;rw[hk];rintro en wx ⟨rfl,e⟩;rw[e];clear e wx);exact fY results134 rfl ⟨rfl,E.trans (aj _ _ _ _),i',true,_,l.set2 true,Or.inr ⟨rfl,rfl⟩⟩
     |true=>
      have a1:(pk s i').toNat≠46:=by intro h;rw[h]at hk;exact absurd hk (by decide)
      have h0:0<(pk s i').toNat:=by
       obtain h|h:=Nat.eq_zero_or_pos (pk s i').toNat
       .rw[h]at hk;exact absurd hk (by decide)
       .exact h
      have hi:i'<s.size:=iw h0;have H:(((pk s i').toNat:Int)!=46)=true:=by rw[bne_iff_ne];omega
      have a3:dh wr base top bi cs gs v2:=hH.but E (λh=>hbi h.symm) (λk h=>by omega);have c8:=(pk s i').toNat_lt;have Y:Hid (cE.contains (pk s i').toNat=true):=hk;have e1:=E.size;have b9:=hR.lt;clear a1 h0;clear hk;go_wp2_with fail;refine(jK (pk s i').toNat _).mono ?_;rw[Y.out];rintro en wx ⟨rfl,e⟩;rw[e];clear e wx;go_wp2_with fail;refine(F7 b s (i'+1) src bi _ vt _ base top cs gs v2 (pk s i').toNat nl (by omega) hnl hs hbi hbb l.inc (a3.but (aj _ _ _ _) (λh=>hbi h.symm) (λk h=>by omega))).mono ?_;rintro en w1 ⟨a2,x,y,j,A,rfl,F,D⟩;have Z:Hid ((A=false/\ ∃a d:Nat,x=a/\y=d/\ba s cs gs.length nl (pk s i').toNat (i'+1)= .ok (a,d,j))\/(A=true/\ba s cs gs.length nl (pk s i').toNat (i'+1)= .error j)):=D
      clear D;have S:But (· =b) wr w1:=(aj _ _ _ _).trans a2;have Q:But (· =b) w w1:=E.trans S;have J:=ag v S (λg hg h=>by have:=aw v g hg;omega);have e0:=Q.size;have e5:=F.c5;have q5:=F.fz 5;have ab:(Value.slice ao is.length cap).ownBlock≠some b:=λh=>by have:=aw J _ h;omega
      have I:=F.lt;clear c1 c2 c5 f1 f2;go_wp2_with (at_builtin;refine wpList_append_lies _ rfl _ _ _ rfl w.heap.size 144 i0 _ 4 32 Tryz.underlying49 b1 b5 b6 b7 rfl (by omega) _ is.length (dx is) rfl (J.alloc _) ⟨w1.heap.size,0,none⟩ 1 1 [.int .u8 (pk s i').toNat,.int .i64 x,.int .i64 y,.int .i64 i'] rfl rfl (iu (cs:=#[.int .u8 (pk s i').toNat,.int .i64 x,.int .i64 y,.int .i64 i']) (t:=144) (fr:=(0,0)) (aO w1 _)) (by simp[Value.oneCell']) (by omega) (by unfold maxLen;omega) (by omega) (by simp;omega) (w1.heap.size+1) (by simp) ?_);intro gg O w2 r C b8 b4;have B:But (λk=>(Value.slice ao is.length cap).ownBlock=some k) w1 w2:=(aa _ _ _).trans (a8 C)
      have y0:=(B.cell (p:=⟨b,5,none⟩) I ab).trans e5;have y1:=(B.frozen (p:=⟨b,5,none⟩) I ab).trans q5;have L:=F.but B ab;have P:But (· =b) w w2:=Q.next B (λk hk h=>absurd (aw J k h) (by omega));have c9:=aw r gg rfl;have a4:=ag r (aj w2 b 5 (.slice (some ⟨gg,0,none⟩) (is.length+1) O)) (λg hg h=>by have:=aw r g hg;omega);clear e5 q5 B C;go_wp2_with (go_at_call 127;refine(bO b s j A src bi _ vt _ hs (L.set5 _)).mono ?_;rintro en w' ⟨rfl,n3,rfl⟩);obtain⟨rfl,a,d,rfl,rfl,ht⟩ | ⟨rfl,ht⟩:=Z.out
      .go_roundg (f+1)
       case measure=>omega
       case rel=>
        refine⟨j,false,_,rfl,(P.trans (aj _ _ _ _)).trans (aH _ _ _),(L.set5 _).drewN _,Or.inl ⟨rfl,f,is++ [⟨pk s i',a,d,i'⟩],rfl,by simp;omega,?_,?_⟩⟩
        .rw[<-HT.out];simp only[eD,if_neg z.out,oI,if_pos Y.out,ht]
        .rw[rO,aN];exact a4
      .go_roundg 0
       case measure=>omega
       case rel=>
        refine⟨j,true,_,rfl,(P.trans (aj _ _ _ _)).trans (aH _ _ _),(L.set5 _).drewN _,Or.inr ⟨rfl,rfl,?_⟩⟩;rw[<-HT.out];simp only[eD,if_neg z.out,oI,if_pos Y.out,ht]
  .go_wp2_with fail;go_end0;exact⟨rfl,E,i',true,_,l,Or.inr ⟨rfl,rfl⟩⟩
end
end
end Go.Proofs.YtpfkkmacakjmbaaGreatDoor
