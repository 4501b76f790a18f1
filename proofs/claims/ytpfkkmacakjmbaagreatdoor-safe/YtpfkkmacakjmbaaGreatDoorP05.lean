import Derived.Test.YtpfkkmacakjmbaaGreatDoorP04
set_option maxRecDepth 100000
set_option maxHeartbeats 6400000
set_option linter.all false
namespace Go.Proofs.YtpfkkmacakjmbaaGreatDoor
open Proofs.Tryz
section
open Go Go.RowKit Sp
attribute [local go_sem ↓] dG dH
theorem Am:(prog.info? 129).map (λi=>(i.zero,i.size,i.bytes))=some (some (.agg #[.int .u8 0,.int .u8 0]),2,2):=by kernel_rfl
section
variable (b:Nat) (s:ByteArray) (i:Nat) (src:Bool) (bi:Nat) (vc vt:Value) (w:World)
theorem An (aC:Option Addr) (n capC:Nat) (hn:n<=4) (hs:s.size<=2000) (hbi:b≠bi) (hR:RdB w b s i false src bi vc vt) (hI:ImB w bi (.slice aC n capC) S_ S_):
  Calls prog 77 #[.pointer (some ⟨b,0,none⟩)] w λen w'=>en= .returned (.tuple #[])/\But (λk=>k=b\/k=bi) w w'/\
   match gH s n 3 [] i with
   | .ok (gs,j)=>RdB w' b s j false src bi vc vt/\ ∃v,ImB w' bi (.slice aC n capC) v S_/\w'.ownsRow w.heap.size 129 2 v gs.length (dr gs)
   | .error j=>RdB w' b s j true src bi vc vt:=by
 obtain⟨R,e3⟩: ∃R,gH s n 3 [] i=R:=⟨_,rfl⟩;rw[e3];have f4:Hid (gH s n 3 [] i=R):=e3;clear e3;obtain⟨i0,g5,h0,h1,h2⟩:=info_parts Am
 go_in
 go_wp2_with (go_at_call 127;refine(cA b s i false src bi vc vt _ hs hR).mono ?_;rintro en w' ⟨rfl,nn,rfl⟩)
 go_loopg [2] 4 (λm c wr=> ∃(i':Nat) (bad':Bool),c= .int .u8 (pk s i').toNat/\But (λk=>k=b\/k=bi) w wr/\RdB wr b s i' bad' src bi vc vt/\
  ((bad'=false/\ ∃f gs v,m=f+1/\f+List.length gs=3/\gH s n f gs i'=R/\ImB wr bi (.slice aC n capC) v S_/\wr.ownsRow w.heap.size 129 2 v gs.length (dr gs))\/(bad'=true/\m=0/\R= .error i')))
 case atStart=>exact⟨i,false,rfl,aK _ _ _,hR.drewN _,Or.inl ⟨rfl,3,[],_,rfl,rfl,f4.out,hI,df _ _ _ _⟩⟩
 case round=>
  obtain⟨i',bad',rfl,hB,a2,b6⟩:=hrel;have c1:=a2.c1;have c2:=a2.c2;have c4:=a2.c4;have f1:=a2.fz 1;have f2:=a2.fz 2;obtain⟨rfl,f,gs,v,rfl,g2,f0,a8,a3⟩ | ⟨rfl,rfl,rfl⟩:=b6
  .have HT:Hid (gH s n f gs i'=R):=f0;have g3:f+gs.length<=3:=by omega
   have g4:3<=f+gs.length:=by omega
   have blt:=a2.lt;have bilt:=a8.lt;clear f0 g2;obtain⟨ao,cap,rfl⟩:=aw a3;have d1:=a8.c1
   by_cases hpe:(pk s i').toNat=59
   · --the end
    have hi:i'<s.size:=iq (by omega);have g7:(((pk s i').toNat:Int)!=59)=false:=by rw[bne_eq_false_iff_eq];omega
    have a0:R= .ok (gs,i'+1):=by rw[<-HT.out];cases f<;>simp[gH,hpe]
    subst a0;clear HT hpe;go_wp2_with fail;go_end0;exact⟨rfl,hB.trans ((au _ _ _ _).mono (λ_ _ h=>Or.inl h)),a2.inc,_,a8.but (au _ _ _ _) (λh=>hbi h.symm),aj a3 (au _ _ _ _) (λg hg h=>by have:=ay a3 g hg;have:=hR.lt;omega)⟩
   .have g7:(((pk s i').toNat:Int)!=59)=true:=by rw[bne_iff_ne];omega
    have b4:Hid (¬(pk s i').toNat=59):=hpe;clear hpe
    cases f with
    |zero=>
     have a0:R= .error i':=by rw[<-HT.out];simp[gH,b4.out]
     subst a0;have e6:(3:Int)<=(gs.length:Int):=by omega
     clear HT;go_wp2_with fail;exact gK results77 rfl ⟨rfl,hB.trans ((au _ _ _ _).mono (λ_ _ h=>Or.inl h)),a2.set2 true⟩
    |succ f=>
     have e6: ¬(3:Int)<=(gs.length:Int):=by omega
     cases ht1:cZ n (pk s i')with
     |false=>
      have a0:R= .error i':=by rw[<-HT.out];simp[gH,b4.out,tyP,ht1]
      subst a0;have H1:Hid (cZ n (pk s i')=false):=ht1;clear HT ht1;go_wp2_with fail;refine(xh b s i' src bi vc vt _ aC n capC _ _ hs a8 a2 H1.out).mono ?_;rintro en w1 ⟨⟨c,rfl⟩,b2,b0⟩;have e2:=b0.c2;clear c1 c2 c4 f1 f2 d1;go_wp2_with fail;exact gK results77 rfl ⟨rfl,hB.next b2 (λ_ _ h=>Or.inl h),b0⟩
     |true=>
      have H1:Hid (cZ n (pk s i')=true):=ht1;clear ht1;go_wp2_with fail;refine(Ak b s i' src bi vc vt _ aC n capC _ _ hs hn a8 a2 H1.out).mono ?_;rintro en w1 ⟨rfl,b2,b0⟩;have b9:=a8.but b2 (λh=>hbi h.symm);have e2:=b0.c2;clear c1 c2 c4 f1 f2 d1
      cases ht2:cZ n (pk s (i'+1))with
      |false=>
       have a0:R= .error (i'+1):=by rw[<-HT.out];simp[gH,b4.out,tyP,H1.out,ht2]
       subst a0;have H2:Hid (cZ n (pk s (i'+1))=false):=ht2;clear HT ht2;go_wp2_with fail;refine(xh b s (i'+1) src bi vc vt _ aC n capC _ _ hs b9 b0 H2.out).mono ?_;rintro en w2 ⟨⟨c,rfl⟩,b5,b3⟩;have e2:=b3.c2;go_wp2_with fail;exact gK results77 rfl ⟨rfl,(hB.next b2 (λ_ _ h=>Or.inl h)).next b5 (λ_ _ h=>Or.inl h),b3⟩
      |true=>
       have H2:Hid (cZ n (pk s (i'+1))=true):=ht2;clear ht2;go_wp2_with fail;refine(Ak b s (i'+1) src bi vc vt _ aC n capC _ _ hs hn b9 b0 H2.out).mono ?_;rintro en w2 ⟨rfl,b5,b3⟩;have f5:=b9.but b5 (λh=>hbi h.symm);clear e2;have e2:=b3.c2;go_wp2_with fail;refine(Aj b s (i'+1+1) src bi vc vt _ _ 46 rfl hs b3 (by decide)).mono ?_;rintro en W ⟨rfl,e7,j,a5,e5,a7⟩;have f3:Hid ((a5=false/\od s 46 (i'+1+1)= .ok j)\/(a5=true/\od s 46 (i'+1+1)= .error j)):=a7;clear a7;have h7:=hB.size;have h4:=hR.lt;have g0:=hI.lt;have d6:But (· =b) wr W:=(b2.trans b5).trans e7;have e9:But (λk=>k=b\/k=bi) w W:=hB.next d6 (λ_ _ h=>Or.inl h)
       have c7:ImB W bi (.slice aC n capC) (.slice ao gs.length cap) S_:=a8.but d6 (λh=>hbi h.symm);have c9:=aj a3 d6 (λg hg h=>by have:=ay a3 g hg;omega);have h6:=e9.size;have e1:=c7.c1;have e4:=e5.c4;have g1:=c7.fz 1;have bltW:=e5.lt;have biltW:=c7.lt;have ab:(Value.slice ao gs.length cap).ownBlock≠some b:=λh=>by have:=ay c9 _ h;omega
       have abi:(Value.slice ao gs.length cap).ownBlock≠some bi:=λh=>by have:=ay c9 _ h;omega
       clear e2 b2 b5 e7 b0 b3 b9 f5;go_wp2_with fail;have f8:But (λk=>(Value.slice ao gs.length cap).ownBlock=some k) W W.drew:=aD _ _;refine aI (But (λk=>(Value.slice ao gs.length cap).ownBlock=some k) W) 16 ?_
       iterate 14 (refine aQ (v:=?_) rfl f8 ?_ ?_;rotate_left;(focus (intro wS h;have q0:=((h.cell (p:=⟨b,4,none⟩) bltW ab).trans e4);have q1:=((h.cell (p:=⟨bi,1,none⟩) biltW abi).trans e1);clear h;go_simp;try rfl));dsimp only[Act.put];try simp only[cH])
       refine az rfl ?_;intro KS hKS;go_simp;refine hKS.out _ _ (λ_=>(ag _ _ _).trans (aD _ _)) ?_;clear hKS KS;refine az rfl ?_;intro KS hKS
       refine step_append_lies _ (by rfl) _ _ _ (by rfl) w.heap.size 129 i0 _ 2 2 Tryz.underlying41 g5 h0 h1 h2 rfl (by omega) _ gs.length (dr gs) (by rfl) ((c9.alloc _).drew)
          ⟨W.heap.size,0,none⟩ 1 1 [.int .u8 (pk s i').toNat,.int .u8 (pk s (i'+1)).toNat] (by rfl) (by rfl) (fX (cs:=#[.int .u8 (pk s i').toNat,.int .u8 (pk s (i'+1)).toNat]) (t:=129) (fr:=(0,0)) (aO W _)) (by simp[Value.oneCell'])
          (by omega) (by unfold maxLen;omega) (by omega) (by simp;omega) (W.heap.size+1) (by simp) ?_
       intro gg a1 w2 a4 a6 h3 g6;have b1:But (λk=>(Value.slice ao gs.length cap).ownBlock=some k) W w2:=((ag _ _ _).trans (aD _ _)).trans (bc a6);refine hKS.out _ _ (λ_=>b1) ?_;clear hKS KS;have y0:=(b1.cell (p:=⟨bi,1,none⟩) biltW abi).trans e1;have y1:=(b1.frozen (p:=⟨bi,1,none⟩) biltW abi).trans g1;refine az rfl ?_;intro KS hKS;go_simp;refine hKS.out _ _ nofun ?_;clear hKS KS;refine az rfl ?_;intro KS hKS;go_simp;refine hKS.out _ _ nofun ?_;clear hKS KS;refine az rfl ?_;intro KS hKS;go_simp;refine hKS.out _ _ nofun ?_;clear hKS KS;refine aR rfl ?_;have e0:RdB (w2.setCell ⟨bi,1,none⟩ (.slice (some ⟨gg,0,none⟩) (gs.length+1) a1)) b s j a5 src bi vc vt:=(e5.but b1 ab).but (au _ _ _ _) hbi
       have f6:ImB (w2.setCell ⟨bi,1,none⟩ (.slice (some ⟨gg,0,none⟩) (gs.length+1) a1)) bi (.slice aC n capC) (.slice (some ⟨gg,0,none⟩) (gs.length+1) a1) S_:=(c7.but b1 abi).set1 _;have h5:=ay a4 gg rfl;have f7:=aj a4 (au w2 bi 1 (.slice (some ⟨gg,0,none⟩) (gs.length+1) a1)) (λg hg h=>by have:=ay a4 g hg;omega)
       have e8:But (λk=>k=b\/k=bi) w (w2.setCell ⟨bi,1,none⟩ (.slice (some ⟨gg,0,none⟩) (gs.length+1) a1)):=
        (e9.next b1 (λk hk h=>absurd (ay c9 k h) (by omega))).next (au _ _ _ _) (λ_ _ h=>Or.inr h)
       clear y0 y1 e1 e4 g1 b1 a6;generalize (w2.setCell ⟨bi,1,none⟩ (.slice (some ⟨gg,0,none⟩) (gs.length+1) a1))=W3 at*;go_wp2_with (go_at_call 127;refine(cA b s j a5 src bi vc vt _ hs e0).mono ?_;rintro en w' ⟨rfl,n3,rfl⟩);obtain⟨rfl,ht⟩ | ⟨rfl,ht⟩:=f3.out
       .go_roundg (f+1)
        case measure=>omega
        case rel=>
         refine⟨j,false,rfl,e8.next (aK (λ_=>False) _ _) (λ_ _ h=>h.elim),e0.drewN _,Or.inl ⟨rfl,f,gs++ [⟨pk s i',pk s (i'+1)⟩],_,rfl,by simp;omega,?_,f6,?_⟩⟩
         .rw[<-HT.out];simp[gH,b4.out,tyP,H1.out,H2.out,ht]
         .rw[lP,aZ];exact f7
       .go_roundg 0
        case measure=>omega
        case rel=>
         refine⟨j,true,rfl,e8.next (aK (λ_=>False) _ _) (λ_ _ h=>h.elim),e0.drewN _,Or.inr ⟨rfl,rfl,?_⟩⟩;rw[<-HT.out];simp[gH,b4.out,tyP,H1.out,H2.out,ht]
  .go_wp2_with fail;go_end0;exact⟨rfl,hB,a2⟩
end
end
section
open Go Go.RowKit Sp
section
variable (b:Nat) (s:ByteArray) (i:Nat) (src:Bool) (bi:Nat) (vc vt:Value) (w:World)
structure eQ (w:World) (base top bi:Nat) (cs:List Cls) (gs:List Sig) (v2:Value):Prop where
 wf:WfC cs
 nc:cs.length<=4
 ns:gs.length<=3
 im: ∃v0 v1,ImB w bi v0 v1 v2/\w.ownsRow base 203 2 v0 cs.length (dA cs)/\w.ownsRow base 129 2 v1 gs.length (dr gs)/\(∀g,v0.ownBlock=some g\/v1.ownBlock=some g->g<top)
theorem BV (base top:Nat) (cs:List Cls) (gs:List Sig) (v2:Value) (c nl:Nat) (hc:c<256) (hnl:nl<=5) (hs:s.size<=2000) (hbi:b≠bi) (hbb:b<base) (hR:RdB w b s i false src bi vc vt) (hH:eQ w base top bi cs gs v2) (hv:c=108\/c=115):
  Calls prog 189 #[.pointer (some ⟨b,0,none⟩),.int .u8 c,.int .i64 nl] w λen w'=>But (· =b) w w'/\ ∃(x y:Int) (j:Nat) (bad:Bool),en= .returned (.tuple #[.int .i64 x,.int .i64 y])/\RdB w' b s j bad src bi vc vt/\((bad=false/\ ∃a d:Nat,x=a/\y=d/\bA s cs gs.length nl c i= .ok (a,d,j))\/(bad=true/\bA s cs gs.length nl c i= .error j)):=by
 obtain⟨b1,a8,b0,v0,v1,hI,hO,a6,_⟩:=hH;obtain⟨a0,cap0,rfl⟩:=aw hO;obtain⟨a1,cap1,rfl⟩:=aw a6;have c2:=hR.c2;have c4:=hR.c4;have d0:=hI.c0;have d1:=hI.c1;obtain hv|hv:=hv
 .have a5:((c:Int)==108)=true:=by rw[beq_iff_eq];omega
  have HV:Hid (c=108):=hv;clear hv
  go_in
  go_wp2_with fail;refine(dN b s i src bi vc vt _ _ nl rfl hs hR).mono ?_;rintro en w1 ⟨a3,v,j,bad,rfl,a4,a2⟩;go_wp2_with fail
  go_ret2
  refine⟨a3,0,v,j,bad,rfl,a4,?_⟩;obtain⟨rfl,d,rfl,_,hd⟩ | ⟨rfl,hd⟩:=a2
  .exact Or.inl ⟨rfl,0,d,rfl,rfl,by simp[bA,HV.out,hd]⟩
  .exact Or.inr ⟨rfl,by simp[bA,HV.out,hd]⟩
 .have a5:=tf c 108 (by omega);have a7:((c:Int)==115)=true:=by rw[beq_iff_eq];omega
  have HV:Hid (c=115):=hv;clear hv
  go_in
  go_wp2_with fail;refine(dN b s i src bi vc vt _ _ nl rfl hs hR).mono ?_;rintro en w1 ⟨a3,v,j,bad,rfl,a4,a2⟩;go_wp2_with fail
  go_ret2
  refine⟨a3,0,v,j,bad,rfl,a4,?_⟩;obtain⟨rfl,d,rfl,_,hd⟩ | ⟨rfl,hd⟩:=a2
  .exact Or.inl ⟨rfl,0,d,rfl,rfl,by simp[bA,HV.out,hd]⟩
  .exact Or.inr ⟨rfl,by simp[bA,HV.out,hd]⟩
theorem Db (base top:Nat) (cs:List Cls) (gs:List Sig) (v2:Value) (c nl:Nat) (hc:c<256) (hnl:nl<=5) (hs:s.size<=2000) (hbi:b≠bi) (hbb:b<base) (hR:RdB w b s i false src bi vc vt) (hH:eQ w base top bi cs gs v2) (hv:c=107):
  Calls prog 189 #[.pointer (some ⟨b,0,none⟩),.int .u8 c,.int .i64 nl] w λen w'=>But (· =b) w w'/\ ∃(x y:Int) (j:Nat) (bad:Bool),en= .returned (.tuple #[.int .i64 x,.int .i64 y])/\RdB w' b s j bad src bi vc vt/\((bad=false/\ ∃a d:Nat,x=a/\y=d/\bA s cs gs.length nl c i= .ok (a,d,j))\/(bad=true/\bA s cs gs.length nl c i= .error j)):=by
 obtain⟨b2,b0,b1,v0,v1,hI,hO,a4,_⟩:=hH;obtain⟨a0,cap0,rfl⟩:=aw hO;obtain⟨a1,cap1,rfl⟩:=aw a4;have c2:=hR.c2;have c4:=hR.c4;have d0:=hI.c0;have d1:=hI.c1;have a7:=tf c 108 (by omega);have a8:=tf c 115 (by omega);have a6:((c:Int)==107)=true:=by rw[beq_iff_eq];omega
 have HV:Hid (c=107):=hv;clear hv
 go_in
 go_wp2_with fail;refine(dN b s i src bi vc vt _ _ 10 rfl hs hR).mono ?_;rintro en w1 ⟨a3,v,j,bad,rfl,a5,a2⟩;go_wp2_with fail
 go_ret2
 refine⟨a3,0,v,j,bad,rfl,a5,?_⟩;obtain⟨rfl,d,rfl,_,hd⟩ | ⟨rfl,hd⟩:=a2
 .exact Or.inl ⟨rfl,0,d,rfl,rfl,by simp[bA,HV.out,hd]⟩
 .exact Or.inr ⟨rfl,by simp[bA,HV.out,hd]⟩
theorem BW (base top:Nat) (cs:List Cls) (gs:List Sig) (v2:Value) (c nl:Nat) (hc:c<256) (hnl:nl<=5) (hs:s.size<=2000) (hbi:b≠bi) (hbb:b<base) (hR:RdB w b s i false src bi vc vt) (hH:eQ w base top bi cs gs v2) (hv:c=110\/c=120):
  Calls prog 189 #[.pointer (some ⟨b,0,none⟩),.int .u8 c,.int .i64 nl] w λen w'=>But (· =b) w w'/\ ∃(x y:Int) (j:Nat) (bad:Bool),en= .returned (.tuple #[.int .i64 x,.int .i64 y])/\RdB w' b s j bad src bi vc vt/\((bad=false/\ ∃a d:Nat,x=a/\y=d/\bA s cs gs.length nl c i= .ok (a,d,j))\/(bad=true/\bA s cs gs.length nl c i= .error j)):=by
 obtain⟨b4,b0,b3,v0,v1,hI,hO,b1,_⟩:=hH;obtain⟨a0,cap0,rfl⟩:=aw hO;obtain⟨a1,cap1,rfl⟩:=aw b1;have c2:=hR.c2;have c4:=hR.c4;have d0:=hI.c0;have d1:=hI.c1;obtain hv|hv:=hv
 .have a6:=tf c 108 (by omega);have a8:=tf c 115 (by omega);have a5:=tf c 107 (by omega);have a7:((c:Int)==110)=true:=by rw[beq_iff_eq];omega
  have HV:Hid (c=110):=hv;clear hv
  go_in
  go_wp2_with fail;refine(gN b s i src bi vc vt _ _ cs.length rfl b0 hs hR).mono ?_;rintro en w1 ⟨a3,v,j,bad,rfl,a4,a2⟩;go_wp2_with fail
  go_ret2
  refine⟨a3,v,0,j,bad,rfl,a4,?_⟩;obtain⟨rfl,d,rfl,_,hd⟩ | ⟨rfl,hd⟩:=a2
  .exact Or.inl ⟨rfl,d,0,rfl,rfl,by simp[bA,HV.out,hd]⟩
  .exact Or.inr ⟨rfl,by simp[bA,HV.out,hd]⟩
 .have a6:=tf c 108 (by omega);have a8:=tf c 115 (by omega);have a5:=tf c 107 (by omega);have a7:=tf c 110 (by omega);have b2:((c:Int)==120)=true:=by rw[beq_iff_eq];omega
  have HV:Hid (c=120):=hv;clear hv
  go_in
  go_wp2_with fail;refine(gN b s i src bi vc vt _ _ cs.length rfl b0 hs hR).mono ?_;rintro en w1 ⟨a3,v,j,bad,rfl,a4,a2⟩;go_wp2_with fail
  go_ret2
  refine⟨a3,v,0,j,bad,rfl,a4,?_⟩;obtain⟨rfl,d,rfl,_,hd⟩ | ⟨rfl,hd⟩:=a2
  .exact Or.inl ⟨rfl,d,0,rfl,rfl,by simp[bA,HV.out,hd]⟩
  .exact Or.inr ⟨rfl,by simp[bA,HV.out,hd]⟩
theorem BX (base top:Nat) (cs:List Cls) (gs:List Sig) (v2:Value) (c nl:Nat) (hc:c<256) (hnl:nl<=5) (hs:s.size<=2000) (hbi:b≠bi) (hbb:b<base) (hR:RdB w b s i false src bi vc vt) (hH:eQ w base top bi cs gs v2) (hv:c=103\/c=112):
  Calls prog 189 #[.pointer (some ⟨b,0,none⟩),.int .u8 c,.int .i64 nl] w λen w'=>But (· =b) w w'/\ ∃(x y:Int) (j:Nat) (bad:Bool),en= .returned (.tuple #[.int .i64 x,.int .i64 y])/\RdB w' b s j bad src bi vc vt/\((bad=false/\ ∃a d:Nat,x=a/\y=d/\bA s cs gs.length nl c i= .ok (a,d,j))\/(bad=true/\bA s cs gs.length nl c i= .error j)):=by
 obtain⟨e9,e1,e8,v0,v1,hI,hO,e3,_⟩:=hH;obtain⟨a0,cap0,rfl⟩:=aw hO;obtain⟨a1,cap1,rfl⟩:=aw e3;have c2:=hR.c2;have c4:=hR.c4;have d0:=hI.c0;have d1:=hI.c1;obtain hv|hv:=hv
 .have c7:=tf c 108 (by omega);have d6:=tf c 115 (by omega);have b9:=tf c 107 (by omega);have c9:=tf c 110 (by omega);have e0:=tf c 120 (by omega);have b6:((c:Int)==103)=true:=by rw[beq_iff_eq];omega
  have HV:Hid (c=103):=hv;clear hv
  go_in
  go_wp2_with fail;refine(gN b s i src bi vc vt _ _ cs.length rfl e1 hs hR).mono ?_;rintro en w1 ⟨a3,v,j,bad,rfl,a4,a2⟩;have e2:=a4.c2;have e4:=a4.c4;have a6:=hI.but a3 (λh=>hbi h.symm);have g0:=a6.c0;have g1:=a6.c1;clear c2 c4 d0 d1;obtain⟨rfl,d,rfl,b2,hd⟩ | ⟨rfl,hd⟩:=a2
  .have HD:Hid (eX s cs.length i= .ok (d,j)):=hd;clear hd;have ha:=aH b2;obtain⟨ga,capa,a7,e5,b3,b4⟩:=iD (aj hO a3 (λg hg h=>by have:=ay hO g hg;omega)) (fV ha);have b1:a0=some ⟨ga,0,none⟩:=by injection a7
   subst b1;have e6:(d:Int)<(cs.length:Int):=by omega
   have b5:bH cs d=cs[d].fields.length:=by simp[bH,ha]
   clear a7;go_wp2_with fail;refine(dN b s j src bi vc vt _ _ (bH cs d) (by rw[b5]) hs a4).mono ?_;rintro en w2 ⟨a8,v,l,bad,rfl,b0,a2⟩;go_wp2_with fail
   go_ret2
   refine⟨a3.trans a8,d,v,l,bad,rfl,b0,?_⟩;obtain⟨rfl,d2,rfl,_,a5⟩ | ⟨rfl,a5⟩:=a2
   .exact Or.inl ⟨rfl,d,d2,rfl,rfl,by simp[bA,HV.out,HD.out,a5]⟩
   .exact Or.inr ⟨rfl,by simp[bA,HV.out,HD.out,a5]⟩
  .have HD:Hid (eX s cs.length i= .error j):=hd;clear hd;go_wp2_with fail
   go_ret2
   exact⟨a3,_,_,j,true,rfl,a4,Or.inr ⟨rfl,by simp[bA,HV.out,HD.out]⟩⟩
 .have c7:=tf c 108 (by omega);have d6:=tf c 115 (by omega);have b9:=tf c 107 (by omega);have c9:=tf c 110 (by omega);have e0:=tf c 120 (by omega);have b6:=tf c 103 (by omega);have e7:((c:Int)==112)=true:=by rw[beq_iff_eq];omega
  have HV:Hid (c=112):=hv;clear hv
  go_in
  go_wp2_with fail;refine(gN b s i src bi vc vt _ _ cs.length rfl e1 hs hR).mono ?_;rintro en w1 ⟨a3,v,j,bad,rfl,a4,a2⟩;have e2:=a4.c2;have e4:=a4.c4;have a6:=hI.but a3 (λh=>hbi h.symm);have g0:=a6.c0;have g1:=a6.c1;clear c2 c4 d0 d1;obtain⟨rfl,d,rfl,b2,hd⟩ | ⟨rfl,hd⟩:=a2
  .have HD:Hid (eX s cs.length i= .ok (d,j)):=hd;clear hd;have ha:=aH b2;obtain⟨ga,capa,a7,e5,b3,b4⟩:=iD (aj hO a3 (λg hg h=>by have:=ay hO g hg;omega)) (fV ha);have b1:a0=some ⟨ga,0,none⟩:=by injection a7
   subst b1;have e6:(d:Int)<(cs.length:Int):=by omega
   have b5:bH cs d=cs[d].fields.length:=by simp[bH,ha]
   clear a7;go_wp2_with fail;refine(dN b s j src bi vc vt _ _ (bH cs d) (by rw[b5]) hs a4).mono ?_;rintro en w2 ⟨a8,v,l,bad,rfl,b0,a2⟩;go_wp2_with fail
   go_ret2
   refine⟨a3.trans a8,d,v,l,bad,rfl,b0,?_⟩;obtain⟨rfl,d2,rfl,_,a5⟩ | ⟨rfl,a5⟩:=a2
   .exact Or.inl ⟨rfl,d,d2,rfl,rfl,by simp[bA,HV.out,HD.out,a5]⟩
   .exact Or.inr ⟨rfl,by simp[bA,HV.out,HD.out,a5]⟩
  .have HD:Hid (eX s cs.length i= .error j):=hd;clear hd;go_wp2_with fail
   go_ret2
   exact⟨a3,_,_,j,true,rfl,a4,Or.inr ⟨rfl,by simp[bA,HV.out,HD.out]⟩⟩
theorem Dc (base top:Nat) (cs:List Cls) (gs:List Sig) (v2:Value) (c nl:Nat) (hc:c<256) (hnl:nl<=5) (hs:s.size<=2000) (hbi:b≠bi) (hbb:b<base) (hR:RdB w b s i false src bi vc vt) (hH:eQ w base top bi cs gs v2) (hv:c=99):
  Calls prog 189 #[.pointer (some ⟨b,0,none⟩),.int .u8 c,.int .i64 nl] w λen w'=>But (· =b) w w'/\ ∃(x y:Int) (j:Nat) (bad:Bool),en= .returned (.tuple #[.int .i64 x,.int .i64 y])/\RdB w' b s j bad src bi vc vt/\((bad=false/\ ∃a d:Nat,x=a/\y=d/\bA s cs gs.length nl c i= .ok (a,d,j))\/(bad=true/\bA s cs gs.length nl c i= .error j)):=by
 obtain⟨e0,b1,d6,v0,v1,hI,hO,a8,_⟩:=hH;obtain⟨a0,cap0,rfl⟩:=aw hO;obtain⟨a1,cap1,rfl⟩:=aw a8;have c2:=hR.c2;have c4:=hR.c4;have d0:=hI.c0;have d1:=hI.c1;have b4:=tf c 108 (by omega);have b9:=tf c 115 (by omega);have b3:=tf c 107 (by omega);have b5:=tf c 110 (by omega);have c7:=tf c 120 (by omega);have b2:=tf c 103 (by omega);have b6:=tf c 112 (by omega);have e1:((c:Int)==99)=true:=by rw[beq_iff_eq];omega
 have HV:Hid (c=99):=hv;clear hv
 go_in
 go_wp2_with fail;refine(gN b s i src bi vc vt _ _ cs.length rfl b1 hs hR).mono ?_;rintro en w1 ⟨a4,v,j,bad,rfl,a3,a2⟩;have e2:=a3.c2;have e4:=a3.c4;have a6:=hI.but a4 (λh=>hbi h.symm);have g0:=a6.c0;have g1:=a6.c1;clear c2 c4 d0 d1;obtain⟨rfl,d,rfl,c9,hd⟩ | ⟨rfl,hd⟩:=a2
 .have HD:Hid (eX s cs.length i= .ok (d,j)):=hd;clear hd;go_wp2_with fail;refine(dN b s j src bi vc vt _ _ gs.length rfl hs a3).mono ?_;rintro en w2 ⟨a7,v,l,bad,rfl,b0,a2⟩;go_wp2_with fail
  go_ret2
  refine⟨a4.trans a7,d,v,l,bad,rfl,b0,?_⟩;obtain⟨rfl,d2,rfl,_,a5⟩ | ⟨rfl,a5⟩:=a2
  .exact Or.inl ⟨rfl,d,d2,rfl,rfl,by simp[bA,HV.out,HD.out,a5]⟩
  .exact Or.inr ⟨rfl,by simp[bA,HV.out,HD.out,a5]⟩
 .have HD:Hid (eX s cs.length i= .error j):=hd;clear hd;go_wp2_with fail
  go_ret2
  exact⟨a4,_,_,j,true,rfl,a3,Or.inr ⟨rfl,by simp[bA,HV.out,HD.out]⟩⟩
theorem BY (base top:Nat) (cs:List Cls) (gs:List Sig) (v2:Value) (c nl:Nat) (hc:c<256) (hnl:nl<=5) (hs:s.size<=2000) (hbi:b≠bi) (hbb:b<base) (hR:RdB w b s i false src bi vc vt) (hH:eQ w base top bi cs gs v2) (hv:c=106\/c=102):
  Calls prog 189 #[.pointer (some ⟨b,0,none⟩),.int .u8 c,.int .i64 nl] w λen w'=>But (· =b) w w'/\ ∃(x y:Int) (j:Nat) (bad:Bool),en= .returned (.tuple #[.int .i64 x,.int .i64 y])/\RdB w' b s j bad src bi vc vt/\((bad=false/\ ∃a d:Nat,x=a/\y=d/\bA s cs gs.length nl c i= .ok (a,d,j))\/(bad=true/\bA s cs gs.length nl c i= .error j)):=by
 obtain⟨e7,e5,e6,v0,v1,hI,hO,d6,_⟩:=hH;obtain⟨a0,cap0,rfl⟩:=aw hO;obtain⟨a1,cap1,rfl⟩:=aw d6;have c2:=hR.c2;have c4:=hR.c4;have d0:=hI.c0;have d1:=hI.c1;obtain hv|hv:=hv
 .have b5:=tf c 108 (by omega);have c7:=tf c 115 (by omega);have b4:=tf c 107 (by omega);have b6:=tf c 110 (by omega);have c9:=tf c 120 (by omega);have b2:=tf c 103 (by omega);have b9:=tf c 112 (by omega);have e3:=tf c 99 (by omega);have b3:((c:Int)==106)=true:=by rw[beq_iff_eq];omega
  have HV:Hid (c=106):=hv;clear hv
  go_in
  go_wp2_with fail;refine(dN b s i src bi vc vt _ _ 10 rfl hs hR).mono ?_;rintro en w1 ⟨a4,v,j,bad,rfl,a5,a2⟩;have e2:=a5.c2;have e4:=a5.c4;have a8:=hI.but a4 (λh=>hbi h.symm);have g0:=a8.c0;have g1:=a8.c1;clear c2 c4 d0 d1;obtain⟨rfl,d,rfl,e0,hd⟩ | ⟨rfl,hd⟩:=a2
  .have HD:Hid (ej s 10 i= .ok (d,j)):=hd;clear hd;go_wp2_with fail;refine(dN b s j src bi vc vt _ _ 10 rfl hs a5).mono ?_;rintro en w2 ⟨a7,v,l,bad,rfl,b0,a2⟩;obtain⟨rfl,d2,rfl,b1,a3⟩ | ⟨rfl,a3⟩:=a2
   .have a6:Hid (ej s 10 j= .ok (d2,l)):=a3;clear a3;go_wp2_with fail
    go_ret2
    exact⟨a4.trans a7,0,10*(d:Int)+d2,l,false,rfl,b0,Or.inl ⟨rfl,0,10*d+d2,rfl,by simp,by simp[bA,HV.out,HD.out,a6.out]⟩⟩
   .have a6:Hid (ej s 10 j= .error l):=a3;clear a3;go_wp2_with fail
    go_ret2
    exact⟨a4.trans a7,0,_,l,true,rfl,b0,Or.inr ⟨rfl,by simp[bA,HV.out,HD.out,a6.out]⟩⟩
  .have HD:Hid (ej s 10 i= .error j):=hd;clear hd;go_wp2_with fail
   go_ret2
   exact⟨a4,_,_,j,true,rfl,a5,Or.inr ⟨rfl,by simp[bA,HV.out,HD.out]⟩⟩
 .have b5:=tf c 108 (by omega);have c7:=tf c 115 (by omega);have b4:=tf c 107 (by omega);have b6:=tf c 110 (by omega);have c9:=tf c 120 (by omega);have b2:=tf c 103 (by omega);have b9:=tf c 112 (by omega);have e3:=tf c 99 (by omega);have b3:=tf c 106 (by omega);have e1:((c:Int)==102)=true:=by rw[beq_iff_eq];omega
  have HV:Hid (c=102):=hv;clear hv
  go_in
  go_wp2_with fail;refine(dN b s i src bi vc vt _ _ 10 rfl hs hR).mono ?_;rintro en w1 ⟨a4,v,j,bad,rfl,a5,a2⟩;have e2:=a5.c2;have e4:=a5.c4;have a8:=hI.but a4 (λh=>hbi h.symm);have g0:=a8.c0;have g1:=a8.c1;clear c2 c4 d0 d1;obtain⟨rfl,d,rfl,e0,hd⟩ | ⟨rfl,hd⟩:=a2
  .have HD:Hid (ej s 10 i= .ok (d,j)):=hd;clear hd;go_wp2_with fail;refine(dN b s j src bi vc vt _ _ 10 rfl hs a5).mono ?_;rintro en w2 ⟨a7,v,l,bad,rfl,b0,a2⟩;obtain⟨rfl,d2,rfl,b1,a3⟩ | ⟨rfl,a3⟩:=a2
   .have a6:Hid (ej s 10 j= .ok (d2,l)):=a3;clear a3;go_wp2_with fail
    go_ret2
    exact⟨a4.trans a7,0,10*(d:Int)+d2,l,false,rfl,b0,Or.inl ⟨rfl,0,10*d+d2,rfl,by simp,by simp[bA,HV.out,HD.out,a6.out]⟩⟩
   .have a6:Hid (ej s 10 j= .error l):=a3;clear a3;go_wp2_with fail
    go_ret2
    exact⟨a4.trans a7,0,_,l,true,rfl,b0,Or.inr ⟨rfl,by simp[bA,HV.out,HD.out,a6.out]⟩⟩
  .have HD:Hid (ej s 10 i= .error j):=hd;clear hd;go_wp2_with fail
   go_ret2
   exact⟨a4,_,_,j,true,rfl,a5,Or.inr ⟨rfl,by simp[bA,HV.out,HD.out]⟩⟩
theorem BZ (base top:Nat) (cs:List Cls) (gs:List Sig) (v2:Value) (c nl:Nat) (hc:c<256) (hnl:nl<=5) (hs:s.size<=2000) (hbi:b≠bi) (hbb:b<base) (hR:RdB w b s i false src bi vc vt) (hH:eQ w base top bi cs gs v2) (hv:c≠108/\c≠115/\c≠107/\c≠110/\c≠120/\c≠103/\c≠112/\c≠99/\c≠106/\c≠102):
  Calls prog 189 #[.pointer (some ⟨b,0,none⟩),.int .u8 c,.int .i64 nl] w λen w'=>But (· =b) w w'/\ ∃(x y:Int) (j:Nat) (bad:Bool),en= .returned (.tuple #[.int .i64 x,.int .i64 y])/\RdB w' b s j bad src bi vc vt/\((bad=false/\ ∃a d:Nat,x=a/\y=d/\bA s cs gs.length nl c i= .ok (a,d,j))\/(bad=true/\bA s cs gs.length nl c i= .error j)):=by
 obtain⟨b5,b3,b4,v0,v1,hI,hO,a2,_⟩:=hH;obtain⟨a0,cap0,rfl⟩:=aw hO;obtain⟨a1,cap1,rfl⟩:=aw a2;have c2:=hR.c2;have c4:=hR.c4;have d0:=hI.c0;have d1:=hI.c1;have a7:=tf c 108 (by omega);have b1:=tf c 115 (by omega);have a6:=tf c 107 (by omega);have a8:=tf c 110 (by omega);have b2:=tf c 120 (by omega);have a4:=tf c 103 (by omega);have b0:=tf c 112 (by omega);have b6:=tf c 99 (by omega);have a5:=tf c 106 (by omega);have a3:=tf c 102 (by omega);have HV:Hid (c≠108/\c≠115/\c≠107/\c≠110/\c≠120/\c≠103/\c≠112/\c≠99/\c≠106/\c≠102):=hv;clear hv
 go_in
 go_wp2_with fail
 go_ret2
 have hv:=HV.out;exact⟨But.refl _ _,0,0,i,false,rfl,hR,Or.inl ⟨rfl,0,0,rfl,rfl,by simp[bA,hv.1,hv.2.1,hv.2.2.1,hv.2.2.2.1,hv.2.2.2.2.1,hv.2.2.2.2.2.1,hv.2.2.2.2.2.2.1,hv.2.2.2.2.2.2.2.1,hv.2.2.2.2.2.2.2.2.1,hv.2.2.2.2.2.2.2.2.2]⟩⟩
theorem Ao (base top:Nat) (cs:List Cls) (gs:List Sig) (v2:Value) (c nl:Nat) (hc:c<256) (hnl:nl<=5) (hs:s.size<=2000) (hbi:b≠bi) (hbb:b<base) (hR:RdB w b s i false src bi vc vt) (hH:eQ w base top bi cs gs v2):
 Calls prog 189 #[.pointer (some ⟨b,0,none⟩),.int .u8 c,.int .i64 nl] w λen w'=>But (· =b) w w'/\ ∃(x y:Int) (j:Nat) (bad:Bool),en= .returned (.tuple #[.int .i64 x,.int .i64 y])/\RdB w' b s j bad src bi vc vt/\((bad=false/\ ∃a d:Nat,x=a/\y=d/\bA s cs gs.length nl c i= .ok (a,d,j))\/(bad=true/\bA s cs gs.length nl c i= .error j)):=by
 by_cases h1:c=108\/c=115
 .exact BV b s i src bi vc vt w base top cs gs v2 c nl hc hnl hs hbi hbb hR hH h1
 by_cases h2:c=107
 .exact Db b s i src bi vc vt w base top cs gs v2 c nl hc hnl hs hbi hbb hR hH h2
 by_cases h3:c=110\/c=120
 .exact BW b s i src bi vc vt w base top cs gs v2 c nl hc hnl hs hbi hbb hR hH h3
 by_cases h4:c=103\/c=112
 .exact BX b s i src bi vc vt w base top cs gs v2 c nl hc hnl hs hbi hbb hR hH h4
 by_cases h5:c=99
 .exact Dc b s i src bi vc vt w base top cs gs v2 c nl hc hnl hs hbi hbb hR hH h5
 by_cases h6:c=106\/c=102
 .exact BY b s i src bi vc vt w base top cs gs v2 c nl hc hnl hs hbi hbb hR hH h6
 exact BZ b s i src bi vc vt w base top cs gs v2 c nl hc hnl hs hbi hbb hR hH (by omega)
end
theorem qB (l:L_) (k:Nat) (p:UInt8->Bool) (h:k<l.length):(l.take (k+1)).any p=((l.take k).any p||p l[k]):=by
 rw[iM h,List.any_append];simp
theorem D9 (s:ByteArray) (k:Nat) (h:k<s.size) (h':k<s.data.toList.length):s.data.toList[k]=s[k]:=Array.getElem_toList (xs:=s.data) (i:=k) h
theorem blen (s:ByteArray):s.data.toList.length=s.size:=Array.length_toList
theorem ye (s:ByteArray) (c:Nat) (w:World) (hs:s.size<=2000):
  Calls prog 186 #[.int .u8 c,.string s] w λen w'=>en= .returned (.bool (s.data.toList.any λx=>x.toNat==c))/\w'=w:=by
 obtain⟨bb,a1⟩: ∃bb,(s.data.toList.any λx=>x.toNat==c)=bb:=⟨_,rfl⟩;rw[a1];have HB:Hid ((s.data.toList.any λx=>x.toNat==c)=bb):=a1;clear a1
 go_in
 go_wp2
 go_loop [5] (λt=> ∃k:Nat,k<=s.size/\t= .int .i64 k/\Hid ((s.data.toList.take k).any (λx=>x.toNat==c)=false)) (λt=>s.size-(intOf t).toNat)
 case atStart=>exact⟨0,Nat.zero_le _,rfl,by show _=_;simp⟩
 case round=>
  obtain⟨k,hk,rfl,HA⟩:=hrel
  by_cases hlt:k<s.size
  .by_cases he:s[k].toNat=c
   .have hb:((s[k].toNat:Int)==(c:Int))=true:=by rw[beq_iff_eq];omega
    have a0:bb=true:=by
     rw[<-HB.out,List.any_eq_true];exact⟨s[k],by rw[<-D9 s k hlt (by rw[blen];exact hlt)];exact cN _,by simp[he]⟩
    subst a0;clear he
    go_wp2
    go_ret;exact⟨rfl,rfl⟩
   .have hb:((s[k].toNat:Int)==(c:Int))=false:=by rw[eA];omega
    have HN:Hid ((s.data.toList.take (k+1)).any (λx=>x.toNat==c)=false):=by
     show _=_
     rw[qB _ _ _ (by rw[blen];exact hlt),HA.out,D9 s k hlt];simp[he]
    clear he
    go_wp2
    go_round
    case rel=>exact⟨k+1,by omega,by go_num,HN⟩
    case measure=>simp[intOf];omega
  .have a0:bb=false:=by
    have:=HA.out;rw[List.take_of_length_le (by rw[blen];omega)]at this;rw[<-HB.out,this]
   subst a0
   go_wp2
   go_ret;exact⟨rfl,rfl⟩
def kV:L_:=[107,114,119,108,115,43,45,42,47,60,61,101,110,122,103,112,99,120,100,106,102,116]
theorem oK:kV.map (λx=>x.toNat)=cV:=by decide
theorem oL (c:Nat):(kV.any λx=>x.toNat==c)=cV.contains c:=by
 rw[<-oK,List.contains_eq_any_beq,List.any_map]
 congr 1
 funext x
 exact Bool.beq_comm
theorem iQ (c:Nat) (w:World):
  Calls prog 186 #[.int .u8 c,.string ⟨#[107,114,119,108,115,43,45,42,47,60,61,101,110,122,103,112,99,120,100,106,102,116]⟩] w λen w'=>en= .returned (.bool (cV.contains c))/\w'=w:=by
 rw[<-oL];exact ye ⟨kV.toArray⟩ c w (by decide)
theorem Ap:(prog.info? 144).map (λi=>(i.zero,i.size,i.bytes))=some (some (.agg #[.int .u8 0,.int .i64 0,.int .i64 0,.int .i64 0]),4,32):=by kernel_rfl
theorem eQ.but {F:Nat->Prop} {w w':World} {base top bi:Nat} {cs:List Cls} {gs:List Sig} {v2:Value} (h:eQ w base top bi cs gs v2) (hb:But F w w') (hbi: ¬F bi) (hF: ∀k,F k->k<base\/top<=k):eQ w' base top bi cs gs v2:=by
 obtain⟨h1,h2,h3,v0,v1,hI,hO,a0,ht⟩:=h;exact⟨h1,h2,h3,v0,v1,hI.but hb hbi,aj hO hb (λg hg h=>by have:=ay hO g hg;have:=hF g h;have:=ht g (Or.inl hg);omega),aj a0 hb (λg hg h=>by have:=ay a0 g hg;have:=hF g h;have:=ht g (Or.inr hg);omega),ht⟩
section
variable (b:Nat) (s:ByteArray) (i:Nat) (src:Bool) (bi:Nat) (vt:Value) (w:World)
theorem Aq (base top:Nat) (cs:List Cls) (gs:List Sig) (v2:Value) (nl:Nat) (hnl:nl<=5) (hs:s.size<=2000) (hbi:b≠bi) (hbb:b<base) (hR:RdB w b s i false src bi S_ vt) (hH:eQ w base top bi cs gs v2):
  Calls prog 134 #[.pointer (some ⟨b,0,none⟩),.int .i64 nl] w λen w'=>en= .returned (.tuple #[])/\But (· =b) w w'/\
   ∃j bad vc,RdB w' b s j bad src bi vc vt/\((bad=false/\ ∃is:List Ins,dy s cs gs.length nl 100 [] i= .ok (is,j+1)/\(pk s j).toNat=46/\is.length<=100/\w'.ownsRow w.heap.size 144 4 vc is.length (dB is))\/(bad=true/\dy s cs gs.length nl 100 [] i= .error j)):=by
 obtain⟨R,c9⟩: ∃R,dy s cs gs.length nl 100 [] i=R:=⟨_,rfl⟩;rw[c9];have e6:Hid (dy s cs gs.length nl 100 [] i=R):=c9;clear c9;obtain⟨i0,f6,g1,g2,g3⟩:=info_parts Ap
 go_in
 go_wp2_with (go_at_call 127;refine(cA b s i false src bi _ vt _ hs hR).mono ?_;rintro en w' ⟨rfl,nn,rfl⟩)
 go_loopg [4] 101 (λm c wr=> ∃(i':Nat) (bad':Bool) (vc:Value),c= .int .u8 (pk s i').toNat/\But (· =b) w wr/\RdB wr b s i' bad' src bi vc vt/\
  ((bad'=false/\ ∃f is,m=f+1/\f+List.length is=100/\dy s cs gs.length nl f is i'=R/\wr.ownsRow w.heap.size 144 4 vc is.length (dB is))\/(bad'=true/\m=0/\R= .error i')))
 case atStart=>exact⟨i,false,_,rfl,aK _ _ _,hR.drewN _,Or.inl ⟨rfl,100,[],rfl,rfl,e6.out,df _ _ _ _⟩⟩
 case round=>
  obtain⟨i',bad',vc,rfl,hB,a1,a2⟩:=hrel;have c1:=a1.c1;have c2:=a1.c2;have c5:=a1.c5;have f1:=a1.fz 1;have f2:=a1.fz 2;obtain⟨rfl,f,is,rfl,f3,e3,a5⟩ | ⟨rfl,rfl,rfl⟩:=a2
  .have HT:Hid (dy s cs gs.length nl f is i'=R):=e3;have f4:f+is.length<=100:=by omega
   have f5:100<=f+is.length:=by omega
   have blt:=a1.lt;clear e3 f3;obtain⟨ao,cap,rfl⟩:=aw a5
   by_cases hpe:(pk s i').toNat=46/\is≠ []
   · --the end
    have b5:(((pk s i').toNat:Int)!=46)=false:=by rw[bne_eq_false_iff_eq];omega
    have b4:0<is.length:=List.length_pos_iff.2 hpe.2;have f7:=tf is.length 0 (by omega);have a4:R= .ok (is,i'+1):=by rw[<-HT.out];cases f<;>simp[dy,hpe]
    have HP:Hid ((pk s i').toNat=46):=hpe.1;subst a4;clear HT hpe;go_wp2_with fail;go_end0;exact⟨rfl,hB,i',false,_,a1,Or.inl ⟨rfl,is,rfl,HP.out,by omega,a5⟩⟩
   .have b0:Hid (¬((pk s i').toNat=46/\is≠ [])):=hpe;clear hpe
    cases f with
    |zero=>
     have a4:R= .error i':=by rw[<-HT.out];simp only[dy,if_neg b0.out]
     subst a4;have d6:(100:Int)<=(is.length:Int):=by omega
     have b4:is≠ []:=List.length_pos_iff.1 (by omega)
     have b5:(((pk s i').toNat:Int)!=46)=true:=by
      rw[bne_iff_ne];intro h;exact b0.out ⟨by omega,b4⟩
     clear HT b4
     cases hk:cV.contains (pk s i').toNat with
     |true=>
      go_wp2_with (go_at_call 186;refine(iQ (pk s i').toNat _).mono ?_;rw[hk];rintro en wx ⟨rfl,a0⟩;rw[a0];clear a0 wx);exact gK results134 rfl ⟨rfl,hB.trans (au _ _ _ _),i',true,_,a1.set2 true,Or.inr ⟨rfl,rfl⟩⟩
     |false=>
      go_wp2_with (go_at_call 186;refine(iQ (pk s i').toNat _).mono ?_;rw[hk];rintro en wx ⟨rfl,a0⟩;rw[a0];clear a0 wx);exact gK results134 rfl ⟨rfl,hB.trans (au _ _ _ _),i',true,_,a1.set2 true,Or.inr ⟨rfl,rfl⟩⟩
    |succ f=>
     have d6: ¬(100:Int)<=(is.length:Int):=by omega
     cases hk:cV.contains (pk s i').toNat with
     |false=>
      have a4:R= .error i':=by rw[<-HT.out];simp only[dy,if_neg b0.out,mz,hk];rfl
      subst a4
      have a2:(((pk s i').toNat:Int)!=46)=true\/((((pk s i').toNat:Int)!=46)=false/\((is.length:Int)==0)=true):=by
       by_cases h:(pk s i').toNat=46
       .right
        refine⟨by rw[bne_eq_false_iff_eq];omega,?_⟩;have:is=[]:=Classical.byContradiction λh'=>b0.out ⟨h,h'⟩
        rw[this];rfl
       .left;rw[bne_iff_ne];omega
      clear HT;obtain b5| ⟨b5,b4⟩:=a2
      .go_wp2_with (go_at_call 186;refine(iQ (pk s i').toNat _).mono ?_;rw[hk];rintro en wx ⟨rfl,a0⟩;rw[a0];clear a0 wx);exact gK results134 rfl ⟨rfl,hB.trans (au _ _ _ _),i',true,_,a1.set2 true,Or.inr ⟨rfl,rfl⟩⟩
      .have f8:((0:Int)==0)=true:=rfl;go_wp2_with (go_at_call 186;refine(iQ (pk s i').toNat _).mono ?_;rw[hk];rintro en wx ⟨rfl,a0⟩;rw[a0];clear a0 wx);exact gK results134 rfl ⟨rfl,hB.trans (au _ _ _ _),i',true,_,a1.set2 true,Or.inr ⟨rfl,rfl⟩⟩
     |true=>
      have e7:(pk s i').toNat≠46:=by intro h;rw[h]at hk;exact absurd hk (by decide)
      have h0:0<(pk s i').toNat:=by
       obtain h|h:=Nat.eq_zero_or_pos (pk s i').toNat
       .rw[h]at hk;exact absurd hk (by decide)
       .exact h
      have hi:i'<s.size:=iq h0;have b5:(((pk s i').toNat:Int)!=46)=true:=by rw[bne_iff_ne];omega
      have e9:eQ wr base top bi cs gs v2:=hH.but hB (λh=>hbi h.symm) (λk h=>by omega);have g6:=(pk s i').toNat_lt;have HK:Hid (cV.contains (pk s i').toNat=true):=hk;have h2:=hB.size;have g5:=hR.lt;clear e7 h0;clear hk;go_wp2_with fail;refine(iQ (pk s i').toNat _).mono ?_;rw[HK.out];rintro en wx ⟨rfl,a0⟩;rw[a0];clear a0 wx;go_wp2_with fail;refine(Ao b s (i'+1) src bi _ vt _ base top cs gs v2 (pk s i').toNat nl (by omega) hnl hs hbi hbb a1.inc (e9.but (au _ _ _ _) (λh=>hbi h.symm) (λk h=>by omega))).mono ?_;rintro en w1 ⟨e8,x,y,j,a8,rfl,b3,a7⟩;have e4:Hid ((a8=false/\ ∃a d:Nat,x=a/\y=d/\bA s cs gs.length nl (pk s i').toNat (i'+1)= .ok (a,d,j))\/(a8=true/\bA s cs gs.length nl (pk s i').toNat (i'+1)= .error j)):=a7
      clear a7;have e2:But (· =b) wr w1:=(au _ _ _ _).trans e8;have e1:But (· =b) w w1:=hB.trans e2;have b9:=aj a5 e2 (λg hg h=>by have:=ay a5 g hg;omega);have h1:=e1.size;have e5:=b3.c5;have q5:=b3.fz 5;have ab:(Value.slice ao is.length cap).ownBlock≠some b:=λh=>by have:=ay b9 _ h;omega
      have b1:=b3.lt;clear c1 c2 c5 f1 f2;go_wp2_with (at_builtin;refine wpList_append_lies _ rfl _ _ _ rfl w.heap.size 144 i0 _ 4 32 Tryz.underlying49 f6 g1 g2 g3 rfl (by omega) _ is.length (dB is) rfl (b9.alloc _) ⟨w1.heap.size,0,none⟩ 1 1 [.int .u8 (pk s i').toNat,.int .i64 x,.int .i64 y,.int .i64 i'] rfl rfl (fX (cs:=#[.int .u8 (pk s i').toNat,.int .i64 x,.int .i64 y,.int .i64 i']) (t:=144) (fr:=(0,0)) (aO w1 _)) (by simp[Value.oneCell']) (by omega) (by unfold maxLen;omega) (by omega) (by simp;omega) (w1.heap.size+1) (by simp) ?_);intro gg b6 w2 a3 a6 g4 g0;have b2:But (λk=>(Value.slice ao is.length cap).ownBlock=some k) w1 w2:=(ag _ _ _).trans (bc a6)
      have y0:=(b2.cell (p:=⟨b,5,none⟩) b1 ab).trans e5;have y1:=(b2.frozen (p:=⟨b,5,none⟩) b1 ab).trans q5;have c7:=b3.but b2 ab;have e0:But (· =b) w w2:=e1.next b2 (λk hk h=>absurd (ay b9 k h) (by omega));have g7:=ay a3 gg rfl;have f0:=aj a3 (au w2 b 5 (.slice (some ⟨gg,0,none⟩) (is.length+1) b6)) (λg hg h=>by have:=ay a3 g hg;omega);clear e5 q5 b2 a6;go_wp2_with (go_at_call 127;refine(cA b s j a8 src bi _ vt _ hs (c7.set5 _)).mono ?_;rintro en w' ⟨rfl,n3,rfl⟩);obtain⟨rfl,a,d,rfl,rfl,ht⟩ | ⟨rfl,ht⟩:=e4.out
      .go_roundg (f+1)
       case measure=>omega
       case rel=>
        refine⟨j,false,_,rfl,(e0.trans (au _ _ _ _)).trans (aK _ _ _),(c7.set5 _).drewN _,Or.inl ⟨rfl,f,is++ [⟨pk s i',a,d,i'⟩],rfl,by simp;omega,?_,?_⟩⟩
        .rw[<-HT.out];simp only[dy,if_neg b0.out,mz,if_pos HK.out,ht]
        .rw[qx,aZ];exact f0
      .go_roundg 0
       case measure=>omega
       case rel=>
        refine⟨j,true,_,rfl,(e0.trans (au _ _ _ _)).trans (aK _ _ _),(c7.set5 _).drewN _,Or.inr ⟨rfl,rfl,?_⟩⟩;rw[<-HT.out];simp only[dy,if_neg b0.out,mz,if_pos HK.out,ht]
  .go_wp2_with fail;go_end0;exact⟨rfl,hB,i',true,_,a1,Or.inr ⟨rfl,rfl⟩⟩
end
end
end Go.Proofs.YtpfkkmacakjmbaaGreatDoor
