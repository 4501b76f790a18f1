import Derived.Test.YtpfkkmacakjmbaaGreatDoorP06
set_option maxRecDepth 100000
set_option maxHeartbeats 6400000
set_option linter.unusedSimpArgs false
set_option linter.unusedVariables false
namespace Go.Proofs.YtpfkkmacakjmbaaGreatDoor
section
open Go Go.RowKit Sp
attribute [local go_sem ↓] Go.wp_at_zero Go.wp_at_succ
theorem vX:(Tryz.prog.info? 129).map (fun i=>(i.zero,i.size,i.bytes))=some (some (.agg #[.int .u8 0,.int .u8 0]),2,2):=by kernel_rfl
section
variable (b:Nat) (s:ByteArray) (i:Nat) (src:Bool) (bi:Nat) (vc vt:Value) (w:World)
theorem vY (aC:Option Addr) (n capC:Nat) (hn:n≤4) (hs:s.size≤2000) (hbi:b≠bi) (hR:RdB w b s i false src bi vc vt) (hI:ImB w bi (.slice aC n capC) (.slice none 0 0) (.slice none 0 0)):
  Calls Tryz.prog 77 #[.pointer (some ⟨b,0,none⟩)] w fun en w'=>en= .returned (.tuple #[])∧But (fun k=>k=b∨k=bi) w w'∧
   match fB s n 3 [] i with
   | .ok (gs,j)=>RdB w' b s j false src bi vc vt∧ ∃v,ImB w' bi (.slice aC n capC) v (.slice none 0 0)∧w'.ownsRow w.heap.size 129 2 v gs.length (cD gs)
   | .error j=>RdB w' b s j true src bi vc vt:=by
 obtain⟨R,e7⟩: ∃R,fB s n 3 [] i=R:=⟨_,rfl⟩;rw[e7];have f8:Hid (fB s n 3 [] i=R):=e7;clear e7;obtain⟨i0,h1,h4,h5,h6⟩:=info_parts vX
 go_in
 go_wp2_with (go_at_call 127;refine(bK b s i false src bi vc vt _ hs hR).mono ?_;rintro en w' ⟨rfl,nn,rfl⟩)
 go_loopg [2] 4 (fun m c wr=> ∃(i':Nat) (bad':Bool),c= .int .u8 (pk s i').toNat∧But (fun k=>k=b∨k=bi) w wr∧RdB wr b s i' bad' src bi vc vt∧
  ((bad'=false∧ ∃f gs v,m=f+1∧f+List.length gs=3∧fB s n f gs i'=R∧ImB wr bi (.slice aC n capC) v (.slice none 0 0)∧wr.ownsRow w.heap.size 129 2 v gs.length (cD gs))∨(bad'=true∧m=0∧R= .error i')))
 case atStart=>exact⟨i,false,rfl,But.drewN _ _ _,hR.drewN _,Or.inl ⟨rfl,3,[],_,rfl,rfl,f8.out,hI,cC _ _ _ _⟩⟩
 case round=>
  obtain⟨i',bad',rfl,hB,a2,b5⟩:=hrel;have c1:=a2.c1;have c2:=a2.c2;have c4:=a2.c4;have f1:=a2.fz 1;have f2:=a2.fz 2;rcases b5 with⟨rfl,f,gs,v,rfl,g6,f6,a8,a3⟩ | ⟨rfl,rfl,rfl⟩
  ·have HT:Hid (fB s n f gs i'=R):=f6;have g7:f+gs.length≤3:=by omega
   have h0:3≤f+gs.length:=by omega
   have blt:=a2.lt;have bilt:=a8.lt;clear f6 g6;obtain⟨ao,cap,rfl⟩:=au a3;have d1:=a8.c1
   by_cases hpe:(pk s i').toNat=59
   · --the end
    have hi:i'<s.size:=gG (by omega);have h3:(((pk s i').toNat:Int)!=59)=false:=by rw[bne_eq_false_iff_eq];omega
    have a0:R= .ok (gs,i'+1):=by rw[←HT.out];cases f<;>simp[fB,hpe]
    subst a0;clear HT hpe;go_wp2_with fail;go_end0;exact⟨rfl,hB.trans ((But.setB _ _ _ _).mono (fun _ _ h=>Or.inl h)),a2.inc,_,a8.but (But.setB _ _ _ _) (fun h=>hbi h.symm),ar a3 (But.setB _ _ _ _) (fun g hg h=>by have:=ay a3 g hg;have:=hR.lt;omega)⟩
   ·have h3:(((pk s i').toNat:Int)!=59)=true:=by rw[bne_iff_ne];omega
    have b3:Hid (¬(pk s i').toNat=59):=hpe;clear hpe
    cases f with
    |zero=>
     have a0:R= .error i':=by rw[←HT.out];simp[fB,b3.out]
     subst a0;have f0:(3:Int)≤(gs.length:Int):=by omega
     clear HT;go_wp2_with fail;exact eo Tryz.results77 rfl ⟨rfl,hB.trans ((But.setB _ _ _ _).mono (fun _ _ h=>Or.inl h)),a2.set2 true⟩
    |succ f=>
     have f0: ¬(3:Int)≤(gs.length:Int):=by omega
     cases ht1:cA n (pk s i')with
     |false=>
      have a0:R= .error i':=by rw[←HT.out];simp[fB,b3.out,tyP,ht1]
      subst a0;have H1:Hid (cA n (pk s i')=false):=ht1;clear HT ht1;go_wp2_with fail;refine(tL b s i' src bi vc vt _ aC n capC _ _ hs a8 a2 H1.out).mono ?_;rintro en w1 ⟨⟨c,rfl⟩,b1,a9⟩;have e2:=a9.c2;clear c1 c2 c4 f1 f2 d1;go_wp2_with fail;exact eo Tryz.results77 rfl ⟨rfl,hB.next b1 (fun _ _ h=>Or.inl h),a9⟩
     |true=>
      have H1:Hid (cA n (pk s i')=true):=ht1;clear ht1;go_wp2_with fail;refine(vV b s i' src bi vc vt _ aC n capC _ _ hs hn a8 a2 H1.out).mono ?_;rintro en w1 ⟨rfl,b1,a9⟩;have b9:=a8.but b1 (fun h=>hbi h.symm);have e2:=a9.c2;clear c1 c2 c4 f1 f2 d1
      cases ht2:cA n (pk s (i'+1))with
      |false=>
       have a0:R= .error (i'+1):=by rw[←HT.out];simp[fB,b3.out,tyP,H1.out,ht2]
       subst a0;have H2:Hid (cA n (pk s (i'+1))=false):=ht2;clear HT ht2;go_wp2_with fail;refine(tL b s (i'+1) src bi vc vt _ aC n capC _ _ hs b9 a9 H2.out).mono ?_;rintro en w2 ⟨⟨c,rfl⟩,b4,b2⟩;have e2:=b2.c2;go_wp2_with fail;exact eo Tryz.results77 rfl ⟨rfl,(hB.next b1 (fun _ _ h=>Or.inl h)).next b4 (fun _ _ h=>Or.inl h),b2⟩
      |true=>
       have H2:Hid (cA n (pk s (i'+1))=true):=ht2;clear ht2;go_wp2_with fail;refine(vV b s (i'+1) src bi vc vt _ aC n capC _ _ hs hn b9 a9 H2.out).mono ?_;rintro en w2 ⟨rfl,b4,b2⟩;have g0:=b9.but b4 (fun h=>hbi h.symm);clear e2;have e2:=b2.c2;go_wp2_with fail;refine(vU b s (i'+1+1) src bi vc vt _ _ 46 rfl hs b2 (by decide)).mono ?_;rintro en W ⟨rfl,f3,j,a5,e8,a7⟩;have f7:Hid ((a5=false∧lT s 46 (i'+1+1)= .ok j)∨(a5=true∧lT s 46 (i'+1+1)= .error j)):=a7;clear a7;have i2:=hB.size;have h8:=hR.lt;have g5:=hI.lt;have e5:But (· =b) wr W:=(b1.trans b4).trans f3;have f5:But (fun k=>k=b∨k=bi) w W:=hB.next e5 (fun _ _ h=>Or.inl h)
       have e0:ImB W bi (.slice aC n capC) (.slice ao gs.length cap) (.slice none 0 0):=a8.but e5 (fun h=>hbi h.symm);have e3:=ar a3 e5 (fun g hg h=>by have:=ay a3 g hg;omega);have i1:=f5.size;have e1:=e0.c1;have e4:=e8.c4;have g1:=e0.fz 1;have bltW:=e8.lt;have biltW:=e0.lt;have ab:(Value.slice ao gs.length cap).ownBlock≠some b:=fun h=>by have:=ay e3 _ h;omega
       have abi:(Value.slice ao gs.length cap).ownBlock≠some bi:=fun h=>by have:=ay e3 _ h;omega
       clear e2 b1 b4 f3 a9 b2 b9 g0;go_wp2_with fail;have g4:But (fun k=>(Value.slice ao gs.length cap).ownBlock=some k) W W.drew:=But.drew _ _;refine az (But (fun k=>(Value.slice ao gs.length cap).ownBlock=some k) W) 16 (by kernel_rfl) ?_
       iterate 14 (refine aB (v:=?_) rfl (by kernel_rfl) (fun _ _ _ h=>h) rfl g4 ?_ ?_;rotate_left;(focus (intro wS h;have q0:=((h.cell (p:=⟨b,4,none⟩) bltW ab).trans e4);have q1:=((h.cell (p:=⟨bi,1,none⟩) biltW abi).trans e1);clear h;go_simp;try rfl));dsimp only[Act.put];try simp only[aR])
       refine ag rfl (by kernel_rfl) ?_;intro KS hKS;go_simp;refine hKS.out _ _ (fun _=>(But.alloc _ _ _).trans (But.drew _ _)) ?_;clear hKS KS;refine ag rfl (by kernel_rfl) ?_;intro KS hKS
       refine step_append_lies _ (by rfl) _ _ _ (by rfl) w.heap.size 129 i0 _ 2 2 Tryz.underlying41 h1 h4 h5 h6 rfl (by omega) _ gs.length (cD gs) (by rfl) ((e3.alloc _).drew)
          ⟨W.heap.size,0,none⟩ 1 1 [.int .u8 (pk s i').toNat,.int .u8 (pk s (i'+1)).toNat] (by rfl) (by rfl) (World.news_of_block (cs:=#[.int .u8 (pk s i').toNat,.int .u8 (pk s (i'+1)).toNat]) (t:=129) (fr:=(0,0)) (heap_alloc_new W _)) (by simp[Value.oneCell'])
          (by omega) (by unfold maxLen;omega) (by omega) (by simp;omega) (W.heap.size+1) (by simp) ?_
       intro gg a1 w2 a4 a6 h7 h2;have b0:But (fun k=>(Value.slice ao gs.length cap).ownBlock=some k) W w2:=((But.alloc _ _ _).trans (But.drew _ _)).trans (aQ a6);refine hKS.out _ _ (fun _=>b0) ?_;clear hKS KS;have y0:=(b0.cell (p:=⟨bi,1,none⟩) biltW abi).trans e1;have y1:=(b0.frozen (p:=⟨bi,1,none⟩) biltW abi).trans g1;refine ag rfl (by kernel_rfl) ?_;intro KS hKS;go_simp;refine hKS.out _ _ nofun ?_;clear hKS KS;refine ag rfl (by kernel_rfl) ?_;intro KS hKS;go_simp;refine hKS.out _ _ nofun ?_;clear hKS KS;refine ag rfl (by kernel_rfl) ?_;intro KS hKS;go_simp;refine hKS.out _ _ nofun ?_;clear hKS KS
       refine aD rfl (by kernel_rfl) ?_;have e6:RdB (w2.setCell ⟨bi,1,none⟩ (.slice (some ⟨gg,0,none⟩) (gs.length+1) a1)) b s j a5 src bi vc vt:=(e8.but b0 ab).but (But.setB _ _ _ _) hbi;have g2:ImB (w2.setCell ⟨bi,1,none⟩ (.slice (some ⟨gg,0,none⟩) (gs.length+1) a1)) bi (.slice aC n capC) (.slice (some ⟨gg,0,none⟩) (gs.length+1) a1) (.slice none 0 0):=(e0.but b0 abi).set1 _;have h9:=ay a4 gg rfl;have g3:=ar a4 (But.setB w2 bi 1 (.slice (some ⟨gg,0,none⟩) (gs.length+1) a1)) (fun g hg h=>by have:=ay a4 g hg;omega)
       have f4:But (fun k=>k=b∨k=bi) w (w2.setCell ⟨bi,1,none⟩ (.slice (some ⟨gg,0,none⟩) (gs.length+1) a1)):=
        (f5.next b0 (fun k hk h=>absurd (ay e3 k h) (by omega))).next (But.setB _ _ _ _) (fun _ _ h=>Or.inr h)
       clear y0 y1 e1 e4 g1 b0 a6;generalize (w2.setCell ⟨bi,1,none⟩ (.slice (some ⟨gg,0,none⟩) (gs.length+1) a1))=W3 at*;go_wp2_with (go_at_call 127;refine(bK b s j a5 src bi vc vt _ hs e6).mono ?_;rintro en w' ⟨rfl,n3,rfl⟩);rcases f7.out with⟨rfl,ht⟩ | ⟨rfl,ht⟩
       ·go_roundg (f+1)
        case measure=>omega
        case rel=>
         refine⟨j,false,rfl,f4.next (But.drewN (fun _=>False) _ _) (fun _ _ h=>h.elim),e6.drewN _,Or.inl ⟨rfl,f,gs++ [⟨pk s i',pk s (i'+1)⟩],_,rfl,by simp;omega,?_,g2,?_⟩⟩
         ·rw[←HT.out];simp[fB,b3.out,tyP,H1.out,H2.out,ht]
         ·rw[jY,List.length_append];exact g3
       ·go_roundg 0
        case measure=>omega
        case rel=>
         refine⟨j,true,rfl,f4.next (But.drewN (fun _=>False) _ _) (fun _ _ h=>h.elim),e6.drewN _,Or.inr ⟨rfl,rfl,?_⟩⟩;rw[←HT.out];simp[fB,b3.out,tyP,H1.out,H2.out,ht]
  ·go_wp2_with fail;go_end0;exact⟨rfl,hB,a2⟩
end
end
section
open Go Go.RowKit Sp
section
variable (b:Nat) (s:ByteArray) (i:Nat) (src:Bool) (bi:Nat) (vc vt:Value) (w:World)
structure dY (w:World) (base top bi:Nat) (cs:List Cls) (gs:List Sig) (v2:Value):Prop where
 wf:WfC cs
 nc:cs.length≤4
 ns:gs.length≤3
 im: ∃v0 v1,ImB w bi v0 v1 v2∧w.ownsRow base 203 2 v0 cs.length (cN cs)∧w.ownsRow base 129 2 v1 gs.length (cD gs)∧(∀g,v0.ownBlock=some g∨v1.ownBlock=some g→g<top)
theorem xU (base top:Nat) (cs:List Cls) (gs:List Sig) (v2:Value) (c nl:Nat) (hc:c<256) (hnl:nl≤5) (hs:s.size≤2000) (hbi:b≠bi) (hbb:b<base) (hR:RdB w b s i false src bi vc vt) (hH:dY w base top bi cs gs v2) (hv:c=108∨c=115):
  Calls Tryz.prog 189 #[.pointer (some ⟨b,0,none⟩),.int .u8 c,.int .i64 nl] w fun en w'=>But (· =b) w w'∧ ∃(x y:Int) (j:Nat) (bad:Bool),en= .returned (.tuple #[.int .i64 x,.int .i64 y])∧RdB w' b s j bad src bi vc vt∧((bad=false∧ ∃a d:Nat,x=a∧y=d∧bp s cs gs.length nl c i= .ok (a,d,j))∨(bad=true∧bp s cs gs.length nl c i= .error j)):=by
 obtain⟨b0,a8,a9,v0,v1,hI,hO,a6,_⟩:=hH;obtain⟨a0,cap0,rfl⟩:=au hO;obtain⟨a1,cap1,rfl⟩:=au a6;have c2:=hR.c2;have c4:=hR.c4;have d0:=hI.c0;have d1:=hI.c1;rcases hv with hv|hv
 ·have a5:((c:Int)==108)=true:=by rw[beq_iff_eq];omega
  have HV:Hid (c=108):=hv;clear hv
  go_in
  go_wp2_with fail;refine(cX b s i src bi vc vt _ _ nl rfl hs hR).mono ?_;rintro en w1 ⟨a3,v,j,bad,rfl,a4,a2⟩;go_wp2_with fail
  go_ret2
  refine⟨a3,0,v,j,bad,rfl,a4,?_⟩;rcases a2 with⟨rfl,d,rfl,_,hd⟩ | ⟨rfl,hd⟩
  ·exact Or.inl ⟨rfl,0,d,rfl,rfl,by simp[bp,HV.out,hd]⟩
  ·exact Or.inr ⟨rfl,by simp[bp,HV.out,hd]⟩
 ·have a5:=tf c 108 (by omega);have a7:((c:Int)==115)=true:=by rw[beq_iff_eq];omega
  have HV:Hid (c=115):=hv;clear hv
  go_in
  go_wp2_with fail;refine(cX b s i src bi vc vt _ _ nl rfl hs hR).mono ?_;rintro en w1 ⟨a3,v,j,bad,rfl,a4,a2⟩;go_wp2_with fail
  go_ret2
  refine⟨a3,0,v,j,bad,rfl,a4,?_⟩;rcases a2 with⟨rfl,d,rfl,_,hd⟩ | ⟨rfl,hd⟩
  ·exact Or.inl ⟨rfl,0,d,rfl,rfl,by simp[bp,HV.out,hd]⟩
  ·exact Or.inr ⟨rfl,by simp[bp,HV.out,hd]⟩
theorem yQ (base top:Nat) (cs:List Cls) (gs:List Sig) (v2:Value) (c nl:Nat) (hc:c<256) (hnl:nl≤5) (hs:s.size≤2000) (hbi:b≠bi) (hbb:b<base) (hR:RdB w b s i false src bi vc vt) (hH:dY w base top bi cs gs v2) (hv:c=107):
  Calls Tryz.prog 189 #[.pointer (some ⟨b,0,none⟩),.int .u8 c,.int .i64 nl] w fun en w'=>But (· =b) w w'∧ ∃(x y:Int) (j:Nat) (bad:Bool),en= .returned (.tuple #[.int .i64 x,.int .i64 y])∧RdB w' b s j bad src bi vc vt∧((bad=false∧ ∃a d:Nat,x=a∧y=d∧bp s cs gs.length nl c i= .ok (a,d,j))∨(bad=true∧bp s cs gs.length nl c i= .error j)):=by
 obtain⟨b1,a9,b0,v0,v1,hI,hO,a4,_⟩:=hH;obtain⟨a0,cap0,rfl⟩:=au hO;obtain⟨a1,cap1,rfl⟩:=au a4;have c2:=hR.c2;have c4:=hR.c4;have d0:=hI.c0;have d1:=hI.c1;have a7:=tf c 108 (by omega);have a8:=tf c 115 (by omega);have a6:((c:Int)==107)=true:=by rw[beq_iff_eq];omega
 have HV:Hid (c=107):=hv;clear hv
 go_in
 go_wp2_with fail;refine(cX b s i src bi vc vt _ _ 10 rfl hs hR).mono ?_;rintro en w1 ⟨a3,v,j,bad,rfl,a5,a2⟩;go_wp2_with fail
 go_ret2
 refine⟨a3,0,v,j,bad,rfl,a5,?_⟩;rcases a2 with⟨rfl,d,rfl,_,hd⟩ | ⟨rfl,hd⟩
 ·exact Or.inl ⟨rfl,0,d,rfl,rfl,by simp[bp,HV.out,hd]⟩
 ·exact Or.inr ⟨rfl,by simp[bp,HV.out,hd]⟩
theorem xV (base top:Nat) (cs:List Cls) (gs:List Sig) (v2:Value) (c nl:Nat) (hc:c<256) (hnl:nl≤5) (hs:s.size≤2000) (hbi:b≠bi) (hbb:b<base) (hR:RdB w b s i false src bi vc vt) (hH:dY w base top bi cs gs v2) (hv:c=110∨c=120):
  Calls Tryz.prog 189 #[.pointer (some ⟨b,0,none⟩),.int .u8 c,.int .i64 nl] w fun en w'=>But (· =b) w w'∧ ∃(x y:Int) (j:Nat) (bad:Bool),en= .returned (.tuple #[.int .i64 x,.int .i64 y])∧RdB w' b s j bad src bi vc vt∧((bad=false∧ ∃a d:Nat,x=a∧y=d∧bp s cs gs.length nl c i= .ok (a,d,j))∨(bad=true∧bp s cs gs.length nl c i= .error j)):=by
 obtain⟨b3,a9,b2,v0,v1,hI,hO,b0,_⟩:=hH;obtain⟨a0,cap0,rfl⟩:=au hO;obtain⟨a1,cap1,rfl⟩:=au b0;have c2:=hR.c2;have c4:=hR.c4;have d0:=hI.c0;have d1:=hI.c1;rcases hv with hv|hv
 ·have a6:=tf c 108 (by omega);have a8:=tf c 115 (by omega);have a5:=tf c 107 (by omega);have a7:((c:Int)==110)=true:=by rw[beq_iff_eq];omega
  have HV:Hid (c=110):=hv;clear hv
  go_in
  go_wp2_with fail;refine(fi b s i src bi vc vt _ _ cs.length rfl a9 hs hR).mono ?_;rintro en w1 ⟨a3,v,j,bad,rfl,a4,a2⟩;go_wp2_with fail
  go_ret2
  refine⟨a3,v,0,j,bad,rfl,a4,?_⟩;rcases a2 with⟨rfl,d,rfl,_,hd⟩ | ⟨rfl,hd⟩
  ·exact Or.inl ⟨rfl,d,0,rfl,rfl,by simp[bp,HV.out,hd]⟩
  ·exact Or.inr ⟨rfl,by simp[bp,HV.out,hd]⟩
 ·have a6:=tf c 108 (by omega);have a8:=tf c 115 (by omega);have a5:=tf c 107 (by omega);have a7:=tf c 110 (by omega);have b1:((c:Int)==120)=true:=by rw[beq_iff_eq];omega
  have HV:Hid (c=120):=hv;clear hv
  go_in
  go_wp2_with fail;refine(fi b s i src bi vc vt _ _ cs.length rfl a9 hs hR).mono ?_;rintro en w1 ⟨a3,v,j,bad,rfl,a4,a2⟩;go_wp2_with fail
  go_ret2
  refine⟨a3,v,0,j,bad,rfl,a4,?_⟩;rcases a2 with⟨rfl,d,rfl,_,hd⟩ | ⟨rfl,hd⟩
  ·exact Or.inl ⟨rfl,d,0,rfl,rfl,by simp[bp,HV.out,hd]⟩
  ·exact Or.inr ⟨rfl,by simp[bp,HV.out,hd]⟩
theorem xW (base top:Nat) (cs:List Cls) (gs:List Sig) (v2:Value) (c nl:Nat) (hc:c<256) (hnl:nl≤5) (hs:s.size≤2000) (hbi:b≠bi) (hbb:b<base) (hR:RdB w b s i false src bi vc vt) (hH:dY w base top bi cs gs v2) (hv:c=103∨c=112):
  Calls Tryz.prog 189 #[.pointer (some ⟨b,0,none⟩),.int .u8 c,.int .i64 nl] w fun en w'=>But (· =b) w w'∧ ∃(x y:Int) (j:Nat) (bad:Bool),en= .returned (.tuple #[.int .i64 x,.int .i64 y])∧RdB w' b s j bad src bi vc vt∧((bad=false∧ ∃a d:Nat,x=a∧y=d∧bp s cs gs.length nl c i= .ok (a,d,j))∨(bad=true∧bp s cs gs.length nl c i= .error j)):=by
 obtain⟨f3,e6,f2,v0,v1,hI,hO,e7,_⟩:=hH;obtain⟨a0,cap0,rfl⟩:=au hO;obtain⟨a1,cap1,rfl⟩:=au e7;have c2:=hR.c2;have c4:=hR.c4;have d0:=hI.c0;have d1:=hI.c1;rcases hv with hv|hv
 ·have e0:=tf c 108 (by omega);have e3:=tf c 115 (by omega);have b9:=tf c 107 (by omega);have e1:=tf c 110 (by omega);have e5:=tf c 120 (by omega);have b5:((c:Int)==103)=true:=by rw[beq_iff_eq];omega
  have HV:Hid (c=103):=hv;clear hv
  go_in
  go_wp2_with fail;refine(fi b s i src bi vc vt _ _ cs.length rfl e6 hs hR).mono ?_;rintro en w1 ⟨a3,v,j,bad,rfl,a4,a2⟩;have e2:=a4.c2;have e4:=a4.c4;have a6:=hI.but a3 (fun h=>hbi h.symm);have g0:=a6.c0;have g1:=a6.c1;clear c2 c4 d0 d1;rcases a2 with⟨rfl,d,rfl,b1,hd⟩ | ⟨rfl,hd⟩
  ·have HD:Hid (el s cs.length i= .ok (d,j)):=hd;clear hd;have ha:=List.getElem?_eq_getElem b1;obtain⟨ga,capa,a7,e8,b2,b3⟩:=eG (ar hO a3 (fun g hg h=>by have:=ay hO g hg;omega)) (eQ ha);have b0:a0=some ⟨ga,0,none⟩:=by injection a7
   subst b0;have f0:(d:Int)<(cs.length:Int):=by omega
   have b4:bS cs d=cs[d].fields.length:=by simp[bS,ha]
   clear a7;go_wp2_with fail;refine(cX b s j src bi vc vt _ _ (bS cs d) (by rw[b4]) hs a4).mono ?_;rintro en w2 ⟨a8,v,l,bad,rfl,a9,a2⟩;go_wp2_with fail
   go_ret2
   refine⟨a3.trans a8,d,v,l,bad,rfl,a9,?_⟩;rcases a2 with⟨rfl,d2,rfl,_,a5⟩ | ⟨rfl,a5⟩
   ·exact Or.inl ⟨rfl,d,d2,rfl,rfl,by simp[bp,HV.out,HD.out,a5]⟩
   ·exact Or.inr ⟨rfl,by simp[bp,HV.out,HD.out,a5]⟩
  ·have HD:Hid (el s cs.length i= .error j):=hd;clear hd;go_wp2_with fail
   go_ret2
   exact⟨a3,_,_,j,true,rfl,a4,Or.inr ⟨rfl,by simp[bp,HV.out,HD.out]⟩⟩
 ·have e0:=tf c 108 (by omega);have e3:=tf c 115 (by omega);have b9:=tf c 107 (by omega);have e1:=tf c 110 (by omega);have e5:=tf c 120 (by omega);have b5:=tf c 103 (by omega);have f1:((c:Int)==112)=true:=by rw[beq_iff_eq];omega
  have HV:Hid (c=112):=hv;clear hv
  go_in
  go_wp2_with fail;refine(fi b s i src bi vc vt _ _ cs.length rfl e6 hs hR).mono ?_;rintro en w1 ⟨a3,v,j,bad,rfl,a4,a2⟩;have e2:=a4.c2;have e4:=a4.c4;have a6:=hI.but a3 (fun h=>hbi h.symm);have g0:=a6.c0;have g1:=a6.c1;clear c2 c4 d0 d1;rcases a2 with⟨rfl,d,rfl,b1,hd⟩ | ⟨rfl,hd⟩
  ·have HD:Hid (el s cs.length i= .ok (d,j)):=hd;clear hd;have ha:=List.getElem?_eq_getElem b1;obtain⟨ga,capa,a7,e8,b2,b3⟩:=eG (ar hO a3 (fun g hg h=>by have:=ay hO g hg;omega)) (eQ ha);have b0:a0=some ⟨ga,0,none⟩:=by injection a7
   subst b0;have f0:(d:Int)<(cs.length:Int):=by omega
   have b4:bS cs d=cs[d].fields.length:=by simp[bS,ha]
   clear a7;go_wp2_with fail;refine(cX b s j src bi vc vt _ _ (bS cs d) (by rw[b4]) hs a4).mono ?_;rintro en w2 ⟨a8,v,l,bad,rfl,a9,a2⟩;go_wp2_with fail
   go_ret2
   refine⟨a3.trans a8,d,v,l,bad,rfl,a9,?_⟩;rcases a2 with⟨rfl,d2,rfl,_,a5⟩ | ⟨rfl,a5⟩
   ·exact Or.inl ⟨rfl,d,d2,rfl,rfl,by simp[bp,HV.out,HD.out,a5]⟩
   ·exact Or.inr ⟨rfl,by simp[bp,HV.out,HD.out,a5]⟩
  ·have HD:Hid (el s cs.length i= .error j):=hd;clear hd;go_wp2_with fail
   go_ret2
   exact⟨a3,_,_,j,true,rfl,a4,Or.inr ⟨rfl,by simp[bp,HV.out,HD.out]⟩⟩
theorem yR (base top:Nat) (cs:List Cls) (gs:List Sig) (v2:Value) (c nl:Nat) (hc:c<256) (hnl:nl≤5) (hs:s.size≤2000) (hbi:b≠bi) (hbb:b<base) (hR:RdB w b s i false src bi vc vt) (hH:dY w base top bi cs gs v2) (hv:c=99):
  Calls Tryz.prog 189 #[.pointer (some ⟨b,0,none⟩),.int .u8 c,.int .i64 nl] w fun en w'=>But (· =b) w w'∧ ∃(x y:Int) (j:Nat) (bad:Bool),en= .returned (.tuple #[.int .i64 x,.int .i64 y])∧RdB w' b s j bad src bi vc vt∧((bad=false∧ ∃a d:Nat,x=a∧y=d∧bp s cs gs.length nl c i= .ok (a,d,j))∨(bad=true∧bp s cs gs.length nl c i= .error j)):=by
 obtain⟨e5,b0,e3,v0,v1,hI,hO,a8,_⟩:=hH;obtain⟨a0,cap0,rfl⟩:=au hO;obtain⟨a1,cap1,rfl⟩:=au a8;have c2:=hR.c2;have c4:=hR.c4;have d0:=hI.c0;have d1:=hI.c1;have b3:=tf c 108 (by omega);have b9:=tf c 115 (by omega);have b2:=tf c 107 (by omega);have b4:=tf c 110 (by omega);have e0:=tf c 120 (by omega);have b1:=tf c 103 (by omega);have b5:=tf c 112 (by omega);have e6:((c:Int)==99)=true:=by rw[beq_iff_eq];omega
 have HV:Hid (c=99):=hv;clear hv
 go_in
 go_wp2_with fail;refine(fi b s i src bi vc vt _ _ cs.length rfl b0 hs hR).mono ?_;rintro en w1 ⟨a4,v,j,bad,rfl,a3,a2⟩;have e2:=a3.c2;have e4:=a3.c4;have a6:=hI.but a4 (fun h=>hbi h.symm);have g0:=a6.c0;have g1:=a6.c1;clear c2 c4 d0 d1;rcases a2 with⟨rfl,d,rfl,e1,hd⟩ | ⟨rfl,hd⟩
 ·have HD:Hid (el s cs.length i= .ok (d,j)):=hd;clear hd;go_wp2_with fail;refine(cX b s j src bi vc vt _ _ gs.length rfl hs a3).mono ?_;rintro en w2 ⟨a7,v,l,bad,rfl,a9,a2⟩;go_wp2_with fail
  go_ret2
  refine⟨a4.trans a7,d,v,l,bad,rfl,a9,?_⟩;rcases a2 with⟨rfl,d2,rfl,_,a5⟩ | ⟨rfl,a5⟩
  ·exact Or.inl ⟨rfl,d,d2,rfl,rfl,by simp[bp,HV.out,HD.out,a5]⟩
  ·exact Or.inr ⟨rfl,by simp[bp,HV.out,HD.out,a5]⟩
 ·have HD:Hid (el s cs.length i= .error j):=hd;clear hd;go_wp2_with fail
  go_ret2
  exact⟨a4,_,_,j,true,rfl,a3,Or.inr ⟨rfl,by simp[bp,HV.out,HD.out]⟩⟩
theorem xX (base top:Nat) (cs:List Cls) (gs:List Sig) (v2:Value) (c nl:Nat) (hc:c<256) (hnl:nl≤5) (hs:s.size≤2000) (hbi:b≠bi) (hbb:b<base) (hR:RdB w b s i false src bi vc vt) (hH:dY w base top bi cs gs v2) (hv:c=106∨c=102):
  Calls Tryz.prog 189 #[.pointer (some ⟨b,0,none⟩),.int .u8 c,.int .i64 nl] w fun en w'=>But (· =b) w w'∧ ∃(x y:Int) (j:Nat) (bad:Bool),en= .returned (.tuple #[.int .i64 x,.int .i64 y])∧RdB w' b s j bad src bi vc vt∧((bad=false∧ ∃a d:Nat,x=a∧y=d∧bp s cs gs.length nl c i= .ok (a,d,j))∨(bad=true∧bp s cs gs.length nl c i= .error j)):=by
 obtain⟨f1,e8,f0,v0,v1,hI,hO,e3,_⟩:=hH;obtain⟨a0,cap0,rfl⟩:=au hO;obtain⟨a1,cap1,rfl⟩:=au e3;have c2:=hR.c2;have c4:=hR.c4;have d0:=hI.c0;have d1:=hI.c1;rcases hv with hv|hv
 ·have b4:=tf c 108 (by omega);have e0:=tf c 115 (by omega);have b3:=tf c 107 (by omega);have b5:=tf c 110 (by omega);have e1:=tf c 120 (by omega);have b1:=tf c 103 (by omega);have b9:=tf c 112 (by omega);have e7:=tf c 99 (by omega);have b2:((c:Int)==106)=true:=by rw[beq_iff_eq];omega
  have HV:Hid (c=106):=hv;clear hv
  go_in
  go_wp2_with fail;refine(cX b s i src bi vc vt _ _ 10 rfl hs hR).mono ?_;rintro en w1 ⟨a4,v,j,bad,rfl,a5,a2⟩;have e2:=a5.c2;have e4:=a5.c4;have a8:=hI.but a4 (fun h=>hbi h.symm);have g0:=a8.c0;have g1:=a8.c1;clear c2 c4 d0 d1;rcases a2 with⟨rfl,d,rfl,e5,hd⟩ | ⟨rfl,hd⟩
  ·have HD:Hid (dM s 10 i= .ok (d,j)):=hd;clear hd;go_wp2_with fail;refine(cX b s j src bi vc vt _ _ 10 rfl hs a5).mono ?_;rintro en w2 ⟨a7,v,l,bad,rfl,a9,a2⟩;rcases a2 with⟨rfl,d2,rfl,b0,a3⟩ | ⟨rfl,a3⟩
   ·have a6:Hid (dM s 10 j= .ok (d2,l)):=a3;clear a3;go_wp2_with fail
    go_ret2
    exact⟨a4.trans a7,0,10*(d:Int)+d2,l,false,rfl,a9,Or.inl ⟨rfl,0,10*d+d2,rfl,by simp,by simp[bp,HV.out,HD.out,a6.out]⟩⟩
   ·have a6:Hid (dM s 10 j= .error l):=a3;clear a3;go_wp2_with fail
    go_ret2
    exact⟨a4.trans a7,0,_,l,true,rfl,a9,Or.inr ⟨rfl,by simp[bp,HV.out,HD.out,a6.out]⟩⟩
  ·have HD:Hid (dM s 10 i= .error j):=hd;clear hd;go_wp2_with fail
   go_ret2
   exact⟨a4,_,_,j,true,rfl,a5,Or.inr ⟨rfl,by simp[bp,HV.out,HD.out]⟩⟩
 ·have b4:=tf c 108 (by omega);have e0:=tf c 115 (by omega);have b3:=tf c 107 (by omega);have b5:=tf c 110 (by omega);have e1:=tf c 120 (by omega);have b1:=tf c 103 (by omega);have b9:=tf c 112 (by omega);have e7:=tf c 99 (by omega);have b2:=tf c 106 (by omega);have e6:((c:Int)==102)=true:=by rw[beq_iff_eq];omega
  have HV:Hid (c=102):=hv;clear hv
  go_in
  go_wp2_with fail;refine(cX b s i src bi vc vt _ _ 10 rfl hs hR).mono ?_;rintro en w1 ⟨a4,v,j,bad,rfl,a5,a2⟩;have e2:=a5.c2;have e4:=a5.c4;have a8:=hI.but a4 (fun h=>hbi h.symm);have g0:=a8.c0;have g1:=a8.c1;clear c2 c4 d0 d1;rcases a2 with⟨rfl,d,rfl,e5,hd⟩ | ⟨rfl,hd⟩
  ·have HD:Hid (dM s 10 i= .ok (d,j)):=hd;clear hd;go_wp2_with fail;refine(cX b s j src bi vc vt _ _ 10 rfl hs a5).mono ?_;rintro en w2 ⟨a7,v,l,bad,rfl,a9,a2⟩;rcases a2 with⟨rfl,d2,rfl,b0,a3⟩ | ⟨rfl,a3⟩
   ·have a6:Hid (dM s 10 j= .ok (d2,l)):=a3;clear a3;go_wp2_with fail
    go_ret2
    exact⟨a4.trans a7,0,10*(d:Int)+d2,l,false,rfl,a9,Or.inl ⟨rfl,0,10*d+d2,rfl,by simp,by simp[bp,HV.out,HD.out,a6.out]⟩⟩
   ·have a6:Hid (dM s 10 j= .error l):=a3;clear a3;go_wp2_with fail
    go_ret2
    exact⟨a4.trans a7,0,_,l,true,rfl,a9,Or.inr ⟨rfl,by simp[bp,HV.out,HD.out,a6.out]⟩⟩
  ·have HD:Hid (dM s 10 i= .error j):=hd;clear hd;go_wp2_with fail
   go_ret2
   exact⟨a4,_,_,j,true,rfl,a5,Or.inr ⟨rfl,by simp[bp,HV.out,HD.out]⟩⟩
theorem xY (base top:Nat) (cs:List Cls) (gs:List Sig) (v2:Value) (c nl:Nat) (hc:c<256) (hnl:nl≤5) (hs:s.size≤2000) (hbi:b≠bi) (hbb:b<base) (hR:RdB w b s i false src bi vc vt) (hH:dY w base top bi cs gs v2) (hv:c≠108∧c≠115∧c≠107∧c≠110∧c≠120∧c≠103∧c≠112∧c≠99∧c≠106∧c≠102):
  Calls Tryz.prog 189 #[.pointer (some ⟨b,0,none⟩),.int .u8 c,.int .i64 nl] w fun en w'=>But (· =b) w w'∧ ∃(x y:Int) (j:Nat) (bad:Bool),en= .returned (.tuple #[.int .i64 x,.int .i64 y])∧RdB w' b s j bad src bi vc vt∧((bad=false∧ ∃a d:Nat,x=a∧y=d∧bp s cs gs.length nl c i= .ok (a,d,j))∨(bad=true∧bp s cs gs.length nl c i= .error j)):=by
 obtain⟨b4,b2,b3,v0,v1,hI,hO,a2,_⟩:=hH;obtain⟨a0,cap0,rfl⟩:=au hO;obtain⟨a1,cap1,rfl⟩:=au a2;have c2:=hR.c2;have c4:=hR.c4;have d0:=hI.c0;have d1:=hI.c1;have a7:=tf c 108 (by omega);have b0:=tf c 115 (by omega);have a6:=tf c 107 (by omega);have a8:=tf c 110 (by omega);have b1:=tf c 120 (by omega);have a4:=tf c 103 (by omega);have a9:=tf c 112 (by omega);have b5:=tf c 99 (by omega);have a5:=tf c 106 (by omega);have a3:=tf c 102 (by omega);have HV:Hid (c≠108∧c≠115∧c≠107∧c≠110∧c≠120∧c≠103∧c≠112∧c≠99∧c≠106∧c≠102):=hv;clear hv
 go_in
 go_wp2_with fail
 go_ret2
 have hv:=HV.out;exact⟨But.refl _ _,0,0,i,false,rfl,hR,Or.inl ⟨rfl,0,0,rfl,rfl,by simp[bp,hv.1,hv.2.1,hv.2.2.1,hv.2.2.2.1,hv.2.2.2.2.1,hv.2.2.2.2.2.1,hv.2.2.2.2.2.2.1,hv.2.2.2.2.2.2.2.1,hv.2.2.2.2.2.2.2.2.1,hv.2.2.2.2.2.2.2.2.2]⟩⟩
theorem vZ (base top:Nat) (cs:List Cls) (gs:List Sig) (v2:Value) (c nl:Nat) (hc:c<256) (hnl:nl≤5) (hs:s.size≤2000) (hbi:b≠bi) (hbb:b<base) (hR:RdB w b s i false src bi vc vt) (hH:dY w base top bi cs gs v2):
 Calls Tryz.prog 189 #[.pointer (some ⟨b,0,none⟩),.int .u8 c,.int .i64 nl] w fun en w'=>But (· =b) w w'∧ ∃(x y:Int) (j:Nat) (bad:Bool),en= .returned (.tuple #[.int .i64 x,.int .i64 y])∧RdB w' b s j bad src bi vc vt∧((bad=false∧ ∃a d:Nat,x=a∧y=d∧bp s cs gs.length nl c i= .ok (a,d,j))∨(bad=true∧bp s cs gs.length nl c i= .error j)):=by
 by_cases h1:c=108∨c=115
 ·exact xU b s i src bi vc vt w base top cs gs v2 c nl hc hnl hs hbi hbb hR hH h1
 by_cases h2:c=107
 ·exact yQ b s i src bi vc vt w base top cs gs v2 c nl hc hnl hs hbi hbb hR hH h2
 by_cases h3:c=110∨c=120
 ·exact xV b s i src bi vc vt w base top cs gs v2 c nl hc hnl hs hbi hbb hR hH h3
 by_cases h4:c=103∨c=112
 ·exact xW b s i src bi vc vt w base top cs gs v2 c nl hc hnl hs hbi hbb hR hH h4
 by_cases h5:c=99
 ·exact yR b s i src bi vc vt w base top cs gs v2 c nl hc hnl hs hbi hbb hR hH h5
 by_cases h6:c=106∨c=102
 ·exact xX b s i src bi vc vt w base top cs gs v2 c nl hc hnl hs hbi hbb hR hH h6
 exact xY b s i src bi vc vt w base top cs gs v2 c nl hc hnl hs hbi hbb hR hH (by omega)
end
theorem ou (l:List UInt8) (k:Nat) (p:UInt8→Bool) (h:k<l.length):(l.take (k+1)).any p=((l.take k).any p||p l[k]):=by
 rw[List.take_succ_eq_append_getElem h,List.any_append];simp
theorem An (s:ByteArray) (k:Nat) (h:k<s.size) (h':k<s.data.toList.length):s.data.toList[k]=s[k]:=Array.getElem_toList (xs:=s.data) (i:=k) h
theorem yS (s:ByteArray):s.data.toList.length=s.size:=Array.length_toList
theorem ud (s:ByteArray) (c:Nat) (w:World) (hs:s.size≤2000):
  Calls Tryz.prog 186 #[.int .u8 c,.string s] w fun en w'=>en= .returned (.bool (s.data.toList.any fun x=>x.toNat==c))∧w'=w:=by
 obtain⟨bb,a1⟩: ∃bb,(s.data.toList.any fun x=>x.toNat==c)=bb:=⟨_,rfl⟩;rw[a1];have HB:Hid ((s.data.toList.any fun x=>x.toNat==c)=bb):=a1;clear a1
 go_in
 go_wp2
 go_loop [5] (fun t=> ∃k:Nat,k≤s.size∧t= .int .i64 k∧Hid ((s.data.toList.take k).any (fun x=>x.toNat==c)=false)) (fun t=>s.size-(intOf t).toNat)
 case atStart=>exact⟨0,Nat.zero_le _,rfl,by show _=_;simp⟩
 case round=>
  obtain⟨k,hk,rfl,HA⟩:=hrel
  by_cases hlt:k<s.size
  ·by_cases he:s[k].toNat=c
   ·have hb:((s[k].toNat:Int)==(c:Int))=true:=by rw[beq_iff_eq];omega
    have a0:bb=true:=by
     rw[←HB.out,List.any_eq_true];exact⟨s[k],by rw[←An s k hlt (by rw[yS];exact hlt)];exact List.getElem_mem _,by simp[he]⟩
    subst a0;clear he
    go_wp2
    go_ret;exact⟨rfl,rfl⟩
   ·have hb:((s[k].toNat:Int)==(c:Int))=false:=by rw[beq_eq_false_iff_ne];omega
    have HN:Hid ((s.data.toList.take (k+1)).any (fun x=>x.toNat==c)=false):=by
     show _=_
     rw[ou _ _ _ (by rw[yS];exact hlt),HA.out,An s k hlt];simp[he]
    clear he
    go_wp2
    go_round
    case rel=>exact⟨k+1,by omega,by go_num,HN⟩
    case measure=>simp[intOf];omega
  ·have a0:bb=false:=by
    have:=HA.out;rw[List.take_of_length_le (by rw[yS];omega)]at this;rw[←HB.out,this]
   subst a0
   go_wp2
   go_ret;exact⟨rfl,rfl⟩
def ju:List UInt8:=[107,114,119,108,115,43,45,42,47,60,61,101,110,122,103,112,99,120,100,106,102,116]
theorem my:ju.map (fun x=>x.toNat)=bM:=by decide
theorem mz (c:Nat):(ju.any fun x=>x.toNat==c)=bM.contains c:=by
 rw[←my,List.contains_eq_any_beq,List.any_map]
 congr 1
 funext x
 exact Bool.beq_comm
theorem gJ (c:Nat) (w:World):
  Calls Tryz.prog 186 #[.int .u8 c,.string ⟨#[107,114,119,108,115,43,45,42,47,60,61,101,110,122,103,112,99,120,100,106,102,116]⟩] w fun en w'=>en= .returned (.bool (bM.contains c))∧w'=w:=by
 rw[←mz];exact ud ⟨ju.toArray⟩ c w (by decide)
theorem v8:(Tryz.prog.info? 144).map (fun i=>(i.zero,i.size,i.bytes))=some (some (.agg #[.int .u8 0,.int .i64 0,.int .i64 0,.int .i64 0]),4,32):=by kernel_rfl
theorem dY.but {F:Nat→Prop} {w w':World} {base top bi:Nat} {cs:List Cls} {gs:List Sig} {v2:Value} (h:dY w base top bi cs gs v2) (hb:But F w w') (hbi: ¬F bi) (hF: ∀k,F k→k<base∨top≤k):dY w' base top bi cs gs v2:=by
 obtain⟨h1,h2,h3,v0,v1,hI,hO,a0,ht⟩:=h;exact⟨h1,h2,h3,v0,v1,hI.but hb hbi,ar hO hb (fun g hg h=>by have:=ay hO g hg;have:=hF g h;have:=ht g (Or.inl hg);omega),ar a0 hb (fun g hg h=>by have:=ay a0 g hg;have:=hF g h;have:=ht g (Or.inr hg);omega),ht⟩
section
variable (b:Nat) (s:ByteArray) (i:Nat) (src:Bool) (bi:Nat) (vt:Value) (w:World)
theorem wb (base top:Nat) (cs:List Cls) (gs:List Sig) (v2:Value) (nl:Nat) (hnl:nl≤5) (hs:s.size≤2000) (hbi:b≠bi) (hbb:b<base) (hR:RdB w b s i false src bi (.slice none 0 0) vt) (hH:dY w base top bi cs gs v2):
  Calls Tryz.prog 134 #[.pointer (some ⟨b,0,none⟩),.int .i64 nl] w fun en w'=>en= .returned (.tuple #[])∧But (· =b) w w'∧
   ∃j bad vc,RdB w' b s j bad src bi vc vt∧((bad=false∧ ∃is:List Ins,cM s cs gs.length nl 100 [] i= .ok (is,j+1)∧(pk s j).toNat=46∧is.length≤100∧w'.ownsRow w.heap.size 144 4 vc is.length (cE is))∨(bad=true∧cM s cs gs.length nl 100 [] i= .error j)):=by
 obtain⟨R,e1⟩: ∃R,cM s cs gs.length nl 100 [] i=R:=⟨_,rfl⟩;rw[e1];have f0:Hid (cM s cs gs.length nl 100 [] i=R):=e1;clear e1;obtain⟨i0,g1,g5,g6,g7⟩:=info_parts v8
 go_in
 go_wp2_with (go_at_call 127;refine(bK b s i false src bi _ vt _ hs hR).mono ?_;rintro en w' ⟨rfl,nn,rfl⟩)
 go_loopg [4] 101 (fun m c wr=> ∃(i':Nat) (bad':Bool) (vc:Value),c= .int .u8 (pk s i').toNat∧But (· =b) w wr∧RdB wr b s i' bad' src bi vc vt∧
  ((bad'=false∧ ∃f is,m=f+1∧f+List.length is=100∧cM s cs gs.length nl f is i'=R∧wr.ownsRow w.heap.size 144 4 vc is.length (cE is))∨(bad'=true∧m=0∧R= .error i')))
 case atStart=>exact⟨i,false,_,rfl,But.drewN _ _ _,hR.drewN _,Or.inl ⟨rfl,100,[],rfl,rfl,f0.out,cC _ _ _ _⟩⟩
 case round=>
  obtain⟨i',bad',vc,rfl,hB,a1,a2⟩:=hrel;have c1:=a1.c1;have c2:=a1.c2;have c5:=a1.c5;have f1:=a1.fz 1;have f2:=a1.fz 2;rcases a2 with⟨rfl,f,is,rfl,f7,e7,a5⟩ | ⟨rfl,rfl,rfl⟩
  ·have HT:Hid (cM s cs gs.length nl f is i'=R):=e7;have f8:f+is.length≤100:=by omega
   have g0:100≤f+is.length:=by omega
   have blt:=a1.lt;clear e7 f7;obtain⟨ao,cap,rfl⟩:=au a5
   by_cases hpe:(pk s i').toNat=46∧is≠ []
   · --the end
    have b4:(((pk s i').toNat:Int)!=46)=false:=by rw[bne_eq_false_iff_eq];omega
    have b3:0<is.length:=List.length_pos_iff.2 hpe.2;have g2:=tf is.length 0 (by omega);have a4:R= .ok (is,i'+1):=by rw[←HT.out];cases f<;>simp[cM,hpe]
    have HP:Hid ((pk s i').toNat=46):=hpe.1;subst a4;clear HT hpe;go_wp2_with fail;go_end0;exact⟨rfl,hB,i',false,_,a1,Or.inl ⟨rfl,is,rfl,HP.out,by omega,a5⟩⟩
   ·have a9:Hid (¬((pk s i').toNat=46∧is≠ [])):=hpe;clear hpe
    cases f with
    |zero=>
     have a4:R= .error i':=by rw[←HT.out];simp only[cM,if_neg a9.out]
     subst a4;have e2:(100:Int)≤(is.length:Int):=by omega
     have b3:is≠ []:=List.length_pos_iff.1 (by omega)
     have b4:(((pk s i').toNat:Int)!=46)=true:=by
      rw[bne_iff_ne];intro h;exact a9.out ⟨by omega,b3⟩
     clear HT b3
     cases hk:bM.contains (pk s i').toNat with
     |true=>
      go_wp2_with (go_at_call 186;refine(gJ (pk s i').toNat _).mono ?_;rw[hk];rintro en wx ⟨rfl,a0⟩;rw[a0];clear a0 wx);exact eo Tryz.results134 rfl ⟨rfl,hB.trans (But.setB _ _ _ _),i',true,_,a1.set2 true,Or.inr ⟨rfl,rfl⟩⟩
     |false=>
      go_wp2_with (go_at_call 186;refine(gJ (pk s i').toNat _).mono ?_;rw[hk];rintro en wx ⟨rfl,a0⟩;rw[a0];clear a0 wx);exact eo Tryz.results134 rfl ⟨rfl,hB.trans (But.setB _ _ _ _),i',true,_,a1.set2 true,Or.inr ⟨rfl,rfl⟩⟩
    |succ f=>
     have e2: ¬(100:Int)≤(is.length:Int):=by omega
     cases hk:bM.contains (pk s i').toNat with
     |false=>
      have a4:R= .error i':=by rw[←HT.out];simp only[cM,if_neg a9.out,lp,hk];rfl
      subst a4
      have a2:(((pk s i').toNat:Int)!=46)=true∨((((pk s i').toNat:Int)!=46)=false∧((is.length:Int)==0)=true):=by
       by_cases h:(pk s i').toNat=46
       ·right
        refine⟨by rw[bne_eq_false_iff_eq];omega,?_⟩;have:is=[]:=Classical.byContradiction fun h'=>a9.out ⟨h,h'⟩
        rw[this];rfl
       ·left;rw[bne_iff_ne];omega
      clear HT;rcases a2 with b4| ⟨b4,b3⟩
      ·go_wp2_with (go_at_call 186;refine(gJ (pk s i').toNat _).mono ?_;rw[hk];rintro en wx ⟨rfl,a0⟩;rw[a0];clear a0 wx);exact eo Tryz.results134 rfl ⟨rfl,hB.trans (But.setB _ _ _ _),i',true,_,a1.set2 true,Or.inr ⟨rfl,rfl⟩⟩
      ·have g3:((0:Int)==0)=true:=rfl;go_wp2_with (go_at_call 186;refine(gJ (pk s i').toNat _).mono ?_;rw[hk];rintro en wx ⟨rfl,a0⟩;rw[a0];clear a0 wx);exact eo Tryz.results134 rfl ⟨rfl,hB.trans (But.setB _ _ _ _),i',true,_,a1.set2 true,Or.inr ⟨rfl,rfl⟩⟩
     |true=>
      have f3:(pk s i').toNat≠46:=by intro h;rw[h]at hk;exact absurd hk (by decide)
      have h0:0<(pk s i').toNat:=by
       rcases Nat.eq_zero_or_pos (pk s i').toNat with h|h
       ·rw[h]at hk;exact absurd hk (by decide)
       ·exact h
      have hi:i'<s.size:=gG h0;have b4:(((pk s i').toNat:Int)!=46)=true:=by rw[bne_iff_ne];omega
      have f5:dY wr base top bi cs gs v2:=hH.but hB (fun h=>hbi h.symm) (fun k h=>by omega);have hcl:=(pk s i').toNat_lt;have HK:Hid (bM.contains (pk s i').toNat=true):=hk;have h5:=hB.size;have h2:=hR.lt;clear f3 h0;clear hk;go_wp2_with fail;refine(gJ (pk s i').toNat _).mono ?_;rw[HK.out];rintro en wx ⟨rfl,a0⟩;rw[a0];clear a0 wx;go_wp2_with fail;refine(vZ b s (i'+1) src bi _ vt _ base top cs gs v2 (pk s i').toNat nl (by omega) hnl hs hbi hbb a1.inc (f5.but (But.setB _ _ _ _) (fun h=>hbi h.symm) (fun k h=>by omega))).mono ?_;rintro en w1 ⟨f4,x,y,j,a8,rfl,b2,a7⟩;have e8:Hid ((a8=false∧ ∃a d:Nat,x=a∧y=d∧bp s cs gs.length nl (pk s i').toNat (i'+1)= .ok (a,d,j))∨(a8=true∧bp s cs gs.length nl (pk s i').toNat (i'+1)= .error j)):=a7
      clear a7;have e6:But (· =b) wr w1:=(But.setB _ _ _ _).trans f4;have e4:But (· =b) w w1:=hB.trans e6;have b9:=ar a5 e6 (fun g hg h=>by have:=ay a5 g hg;omega);have h4:=e4.size;have e5:=b2.c5;have q5:=b2.fz 5;have ab:(Value.slice ao is.length cap).ownBlock≠some b:=fun h=>by have:=ay b9 _ h;omega
      have b0:=b2.lt;clear c1 c2 c5 f1 f2;go_wp2_with (at_builtin;refine wpList_append_lies _ rfl _ _ _ rfl w.heap.size 144 i0 _ 4 32 Tryz.underlying49 g1 g5 g6 g7 rfl (by omega) _ is.length (cE is) rfl (b9.alloc _) ⟨w1.heap.size,0,none⟩ 1 1 [.int .u8 (pk s i').toNat,.int .i64 x,.int .i64 y,.int .i64 i'] rfl rfl (World.news_of_block (cs:=#[.int .u8 (pk s i').toNat,.int .i64 x,.int .i64 y,.int .i64 i']) (t:=144) (fr:=(0,0)) (heap_alloc_new w1 _)) (by simp[Value.oneCell']) (by omega) (by unfold maxLen;omega) (by omega) (by simp;omega) (w1.heap.size+1) (by simp) ?_);intro gg b5 w2 a3 a6 h1 g4;have b1:But (fun k=>(Value.slice ao is.length cap).ownBlock=some k) w1 w2:=(But.alloc _ _ _).trans (aQ a6)
      have y0:=(b1.cell (p:=⟨b,5,none⟩) b0 ab).trans e5;have y1:=(b1.frozen (p:=⟨b,5,none⟩) b0 ab).trans q5;have e0:=b2.but b1 ab;have e3:But (· =b) w w2:=e4.next b1 (fun k hk h=>absurd (ay b9 k h) (by omega));have h3:=ay a3 gg rfl;have f6:=ar a3 (But.setB w2 b 5 (.slice (some ⟨gg,0,none⟩) (is.length+1) b5)) (fun g hg h=>by have:=ay a3 g hg;omega);clear e5 q5 b1 a6;go_wp2_with (go_at_call 127;refine(bK b s j a8 src bi _ vt _ hs (e0.set5 _)).mono ?_;rintro en w' ⟨rfl,n3,rfl⟩);rcases e8.out with⟨rfl,a,d,rfl,rfl,ht⟩ | ⟨rfl,ht⟩
      ·go_roundg (f+1)
       case measure=>omega
       case rel=>
        refine⟨j,false,_,rfl,(e3.trans (But.setB _ _ _ _)).trans (But.drewN _ _ _),(e0.set5 _).drewN _,Or.inl ⟨rfl,f,is++ [⟨pk s i',a,d,i'⟩],rfl,by simp;omega,?_,?_⟩⟩
        ·rw[←HT.out];simp only[cM,if_neg a9.out,lp,if_pos HK.out,ht]
        ·rw[ol,List.length_append];exact f6
      ·go_roundg 0
       case measure=>omega
       case rel=>
        refine⟨j,true,_,rfl,(e3.trans (But.setB _ _ _ _)).trans (But.drewN _ _ _),(e0.set5 _).drewN _,Or.inr ⟨rfl,rfl,?_⟩⟩;rw[←HT.out];simp only[cM,if_neg a9.out,lp,if_pos HK.out,ht]
  ·go_wp2_with fail;go_end0;exact⟨rfl,hB,i',true,_,a1,Or.inr ⟨rfl,rfl⟩⟩
end
end
end Go.Proofs.YtpfkkmacakjmbaaGreatDoor
