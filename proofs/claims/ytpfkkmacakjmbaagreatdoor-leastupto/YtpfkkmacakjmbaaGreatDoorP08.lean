import Derived.Test.YtpfkkmacakjmbaaGreatDoorP07
set_option maxRecDepth 100000
set_option maxHeartbeats 6400000
set_option linter.unusedSimpArgs false
set_option linter.unusedVariables false
namespace Go.Proofs.YtpfkkmacakjmbaaGreatDoor
section
open Go Go.RowKit Sp
attribute [local go_sem ↓] Go.wp_at_zero Go.wp_at_succ
theorem wV:(Tryz.prog.info? 129).map (fun i=>(i.zero,i.size,i.bytes))=some (some (.agg #[.int .u8 0,.int .u8 0]),2,2):=by kernel_rfl
section
variable (b:Nat) (s:ByteArray) (i:Nat) (src:Bool) (bi:Nat) (vc vt:Value) (w:World)
theorem wW (aC:Option Addr) (n capC:Nat) (hn:n≤4) (hs:s.size≤2000) (hbi:b≠bi) (hR:RdB w b s i false src bi vc vt) (hI:ImB w bi (.slice aC n capC) (.slice none 0 0) (.slice none 0 0)):
  Calls Tryz.prog 77 #[.pointer (some ⟨b,0,none⟩)] w fun en w'=>en= .returned (.tuple #[])∧But (fun k=>k=b∨k=bi) w w'∧
   match eF s n 3 [] i with
   | .ok (gs,j)=>RdB w' b s j false src bi vc vt∧ ∃v,ImB w' bi (.slice aC n capC) v (.slice none 0 0)∧w'.ownsRow w.heap.size 129 2 v gs.length (cy gs)
   | .error j=>RdB w' b s j true src bi vc vt:=by
 obtain⟨R,e6⟩: ∃R,eF s n 3 [] i=R:=⟨_,rfl⟩;rw[e6];have f6:Hid (eF s n 3 [] i=R):=e6;clear e6;obtain⟨i0,g7,h2,h3,h4⟩:=info_parts wV
 go_in
 go_wp2_with (go_at_call 127;refine(bG b s i false src bi vc vt _ hs hR).mono ?_;rintro en w' ⟨rfl,nn,rfl⟩)
 go_loopg [2] 4 (fun m c wr=> ∃(i':Nat) (bad':Bool),c= .int .u8 (pk s i').toNat∧But (fun k=>k=b∨k=bi) w wr∧RdB wr b s i' bad' src bi vc vt∧
  ((bad'=false∧ ∃f gs v,m=f+1∧f+List.length gs=3∧eF s n f gs i'=R∧ImB wr bi (.slice aC n capC) v (.slice none 0 0)∧wr.ownsRow w.heap.size 129 2 v gs.length (cy gs))∨(bad'=true∧m=0∧R= .error i')))
 case atStart=>exact⟨i,false,rfl,But.drewN _ _ _,hR.drewN _,Or.inl ⟨rfl,3,[],_,rfl,rfl,f6.out,hI,du _ _ _ _⟩⟩
 case round=>
  obtain⟨i',bad',rfl,hB,a2,b6⟩:=hrel;have c1:=a2.c1;have c2:=a2.c2;have c4:=a2.c4;have f1:=a2.fz 1;have f2:=a2.fz 2;rcases b6 with⟨rfl,f,gs,v,rfl,g4,f4,a8,a3⟩ | ⟨rfl,rfl,rfl⟩
  ·have HT:Hid (eF s n f gs i'=R):=f4;have g5:f+gs.length≤3:=by omega
   have g6:3≤f+gs.length:=by omega
   have blt:=a2.lt;have bilt:=a8.lt;clear f4 g4;obtain⟨ao,cap,rfl⟩:=aq a3;have d1:=a8.c1
   by_cases hpe:(pk s i').toNat=59
   · --the end
    have hi:i'<s.size:=fg (by omega);have h1:(((pk s i').toNat:Int)!=59)=false:=by rw[bne_eq_false_iff_eq];omega
    have a0:R= .ok (gs,i'+1):=by rw[←HT.out];cases f<;>simp[eF,hpe]
    subst a0;clear HT hpe;go_wp2_with fail;go_end0;exact⟨rfl,hB.trans ((But.setB _ _ _ _).mono (fun _ _ h=>Or.inl h)),a2.inc,_,a8.but (But.setB _ _ _ _) (fun h=>hbi h.symm),ah a3 (But.setB _ _ _ _) (fun g hg h=>by have:=aj a3 g hg;have:=hR.lt;omega)⟩
   ·have h1:(((pk s i').toNat:Int)!=59)=true:=by rw[bne_iff_ne];omega
    have b4:Hid (¬(pk s i').toNat=59):=hpe;clear hpe
    cases f with
    |zero=>
     have a0:R= .error i':=by rw[←HT.out];simp[eF,b4.out]
     subst a0;have e8:(3:Int)≤(gs.length:Int):=by omega
     clear HT;go_wp2_with fail;exact fV Tryz.results77 rfl ⟨rfl,hB.trans ((But.setB _ _ _ _).mono (fun _ _ h=>Or.inl h)),a2.set2 true⟩
    |succ f=>
     have e8: ¬(3:Int)≤(gs.length:Int):=by omega
     cases ht1:ce n (pk s i')with
     |false=>
      have a0:R= .error i':=by rw[←HT.out];simp[eF,b4.out,tyP,ht1]
      subst a0;have H1:Hid (ce n (pk s i')=false):=ht1;clear HT ht1;go_wp2_with fail;refine(ua b s i' src bi vc vt _ aC n capC _ _ hs a8 a2 H1.out).mono ?_;rintro en w1 ⟨⟨c,rfl⟩,b2,b0⟩;have e2:=b0.c2;clear c1 c2 c4 f1 f2 d1;go_wp2_with fail;exact fV Tryz.results77 rfl ⟨rfl,hB.next b2 (fun _ _ h=>Or.inl h),b0⟩
     |true=>
      have H1:Hid (ce n (pk s i')=true):=ht1;clear ht1;go_wp2_with fail;refine(wT b s i' src bi vc vt _ aC n capC _ _ hs hn a8 a2 H1.out).mono ?_;rintro en w1 ⟨rfl,b2,b0⟩;have c7:=a8.but b2 (fun h=>hbi h.symm);have e2:=b0.c2;clear c1 c2 c4 f1 f2 d1
      cases ht2:ce n (pk s (i'+1))with
      |false=>
       have a0:R= .error (i'+1):=by rw[←HT.out];simp[eF,b4.out,tyP,H1.out,ht2]
       subst a0;have H2:Hid (ce n (pk s (i'+1))=false):=ht2;clear HT ht2;go_wp2_with fail;refine(ua b s (i'+1) src bi vc vt _ aC n capC _ _ hs c7 b0 H2.out).mono ?_;rintro en w2 ⟨⟨c,rfl⟩,b5,b3⟩;have e2:=b3.c2;go_wp2_with fail;exact fV Tryz.results77 rfl ⟨rfl,(hB.next b2 (fun _ _ h=>Or.inl h)).next b5 (fun _ _ h=>Or.inl h),b3⟩
      |true=>
       have H2:Hid (ce n (pk s (i'+1))=true):=ht2;clear ht2;go_wp2_with fail;refine(wT b s (i'+1) src bi vc vt _ aC n capC _ _ hs hn c7 b0 H2.out).mono ?_;rintro en w2 ⟨rfl,b5,b3⟩;have f7:=c7.but b5 (fun h=>hbi h.symm);clear e2;have e2:=b3.c2;go_wp2_with fail;refine(wR b s (i'+1+1) src bi vc vt _ _ 46 rfl hs b3 (by decide)).mono ?_;rintro en W ⟨rfl,e9,j,a5,e7,a7⟩;have f5:Hid ((a5=false∧lm s 46 (i'+1+1)= .ok j)∨(a5=true∧lm s 46 (i'+1+1)= .error j)):=a7;clear a7;have h9:=hB.size;have h6:=hR.lt;have g3:=hI.lt;have e3:But (· =b) wr W:=(b2.trans b5).trans e9;have f3:But (fun k=>k=b∨k=bi) w W:=hB.next e3 (fun _ _ h=>Or.inl h)
       have d6:ImB W bi (.slice aC n capC) (.slice ao gs.length cap) (.slice none 0 0):=a8.but e3 (fun h=>hbi h.symm);have e0:=ah a3 e3 (fun g hg h=>by have:=aj a3 g hg;omega);have h8:=f3.size;have e1:=d6.c1;have e4:=e7.c4;have g1:=d6.fz 1;have bltW:=e7.lt;have biltW:=d6.lt;have ab:(Value.slice ao gs.length cap).ownBlock≠some b:=fun h=>by have:=aj e0 _ h;omega
       have abi:(Value.slice ao gs.length cap).ownBlock≠some bi:=fun h=>by have:=aj e0 _ h;omega
       clear e2 b2 b5 e9 b0 b3 c7 f7;go_wp2_with fail;have g2:But (fun k=>(Value.slice ao gs.length cap).ownBlock=some k) W W.drew:=But.drew _ _;refine aB (But (fun k=>(Value.slice ao gs.length cap).ownBlock=some k) W) 16 (by kernel_rfl) ?_
       iterate 14 (refine aG (v:=?_) rfl (by kernel_rfl) (fun _ _ _ h=>h) rfl g2 ?_ ?_;rotate_left;(focus (intro wS h;have q0:=((h.cell (p:=⟨b,4,none⟩) bltW ab).trans e4);have q1:=((h.cell (p:=⟨bi,1,none⟩) biltW abi).trans e1);clear h;go_simp;try rfl));dsimp only[Act.put];try simp only[aK])
       refine ag rfl (by kernel_rfl) ?_;intro KS hKS;go_simp;refine hKS.out _ _ (fun _=>(But.alloc _ _ _).trans (But.drew _ _)) ?_;clear hKS KS;refine ag rfl (by kernel_rfl) ?_;intro KS hKS
       refine step_append_lies _ (by rfl) _ _ _ (by rfl) w.heap.size 129 i0 _ 2 2 Tryz.underlying41 g7 h2 h3 h4 rfl (by omega) _ gs.length (cy gs) (by rfl) ((e0.alloc _).drew)
          ⟨W.heap.size,0,none⟩ 1 1 [.int .u8 (pk s i').toNat,.int .u8 (pk s (i'+1)).toNat] (by rfl) (by rfl) (World.news_of_block (cs:=#[.int .u8 (pk s i').toNat,.int .u8 (pk s (i'+1)).toNat]) (t:=129) (fr:=(0,0)) (heap_alloc_new W _)) (by simp[Value.oneCell'])
          (by omega) (by unfold maxLen;omega) (by omega) (by simp;omega) (W.heap.size+1) (by simp) ?_
       intro gg a1 w2 a4 a6 h5 h0;have b1:But (fun k=>(Value.slice ao gs.length cap).ownBlock=some k) W w2:=((But.alloc _ _ _).trans (But.drew _ _)).trans (aX a6);refine hKS.out _ _ (fun _=>b1) ?_;clear hKS KS;have y0:=(b1.cell (p:=⟨bi,1,none⟩) biltW abi).trans e1;have y1:=(b1.frozen (p:=⟨bi,1,none⟩) biltW abi).trans g1;refine ag rfl (by kernel_rfl) ?_;intro KS hKS;go_simp;refine hKS.out _ _ nofun ?_;clear hKS KS;refine ag rfl (by kernel_rfl) ?_;intro KS hKS;go_simp;refine hKS.out _ _ nofun ?_;clear hKS KS;refine ag rfl (by kernel_rfl) ?_;intro KS hKS;go_simp;refine hKS.out _ _ nofun ?_;clear hKS KS
       refine aF rfl (by kernel_rfl) ?_;have e5:RdB (w2.setCell ⟨bi,1,none⟩ (.slice (some ⟨gg,0,none⟩) (gs.length+1) a1)) b s j a5 src bi vc vt:=(e7.but b1 ab).but (But.setB _ _ _ _) hbi;have f8:ImB (w2.setCell ⟨bi,1,none⟩ (.slice (some ⟨gg,0,none⟩) (gs.length+1) a1)) bi (.slice aC n capC) (.slice (some ⟨gg,0,none⟩) (gs.length+1) a1) (.slice none 0 0):=(d6.but b1 abi).set1 _;have h7:=aj a4 gg rfl;have g0:=ah a4 (But.setB w2 bi 1 (.slice (some ⟨gg,0,none⟩) (gs.length+1) a1)) (fun g hg h=>by have:=aj a4 g hg;omega)
       have f0:But (fun k=>k=b∨k=bi) w (w2.setCell ⟨bi,1,none⟩ (.slice (some ⟨gg,0,none⟩) (gs.length+1) a1)):=
        (f3.next b1 (fun k hk h=>absurd (aj e0 k h) (by omega))).next (But.setB _ _ _ _) (fun _ _ h=>Or.inr h)
       clear y0 y1 e1 e4 g1 b1 a6;generalize (w2.setCell ⟨bi,1,none⟩ (.slice (some ⟨gg,0,none⟩) (gs.length+1) a1))=W3 at*;go_wp2_with (go_at_call 127;refine(bG b s j a5 src bi vc vt _ hs e5).mono ?_;rintro en w' ⟨rfl,n3,rfl⟩);rcases f5.out with⟨rfl,ht⟩ | ⟨rfl,ht⟩
       ·go_roundg (f+1)
        case measure=>omega
        case rel=>
         refine⟨j,false,rfl,f0.next (But.drewN (fun _=>False) _ _) (fun _ _ h=>h.elim),e5.drewN _,Or.inl ⟨rfl,f,gs++ [⟨pk s i',pk s (i'+1)⟩],_,rfl,by simp;omega,?_,f8,?_⟩⟩
         ·rw[←HT.out];simp[eF,b4.out,tyP,H1.out,H2.out,ht]
         ·rw[jB,List.length_append];exact g0
       ·go_roundg 0
        case measure=>omega
        case rel=>
         refine⟨j,true,rfl,f0.next (But.drewN (fun _=>False) _ _) (fun _ _ h=>h.elim),e5.drewN _,Or.inr ⟨rfl,rfl,?_⟩⟩;rw[←HT.out];simp[eF,b4.out,tyP,H1.out,H2.out,ht]
  ·go_wp2_with fail;go_end0;exact⟨rfl,hB,a2⟩
end
end
section
open Go Go.RowKit Sp
section
variable (b:Nat) (s:ByteArray) (i:Nat) (src:Bool) (bi:Nat) (vc vt:Value) (w:World)
structure dC (w:World) (base top bi:Nat) (cs:List Cls) (gs:List Sig) (v2:Value):Prop where
 wf:WfC cs
 nc:cs.length≤4
 ns:gs.length≤3
 im: ∃v0 v1,ImB w bi v0 v1 v2∧w.ownsRow base 203 2 v0 cs.length (cE cs)∧w.ownsRow base 129 2 v1 gs.length (cy gs)∧(∀g,v0.ownBlock=some g∨v1.ownBlock=some g→g<top)
theorem yX (base top:Nat) (cs:List Cls) (gs:List Sig) (v2:Value) (c nl:Nat) (hc:c<256) (hnl:nl≤5) (hs:s.size≤2000) (hbi:b≠bi) (hbb:b<base) (hR:RdB w b s i false src bi vc vt) (hH:dC w base top bi cs gs v2) (hv:c=108∨c=115):
  Calls Tryz.prog 189 #[.pointer (some ⟨b,0,none⟩),.int .u8 c,.int .i64 nl] w fun en w'=>But (· =b) w w'∧ ∃(x y:Int) (j:Nat) (bad:Bool),en= .returned (.tuple #[.int .i64 x,.int .i64 y])∧RdB w' b s j bad src bi vc vt∧((bad=false∧ ∃a d:Nat,x=a∧y=d∧aY s cs gs.length nl c i= .ok (a,d,j))∨(bad=true∧aY s cs gs.length nl c i= .error j)):=by
 obtain⟨b1,a8,b0,v0,v1,hI,hO,a6,_⟩:=hH;obtain⟨a0,cap0,rfl⟩:=aq hO;obtain⟨a1,cap1,rfl⟩:=aq a6;have c2:=hR.c2;have c4:=hR.c4;have d0:=hI.c0;have d1:=hI.c1;rcases hv with hv|hv
 ·have a5:((c:Int)==108)=true:=by rw[beq_iff_eq];omega
  have HV:Hid (c=108):=hv;clear hv
  go_in
  go_wp2_with fail;refine(cL b s i src bi vc vt _ _ nl rfl hs hR).mono ?_;rintro en w1 ⟨a3,v,j,bad,rfl,a4,a2⟩;go_wp2_with fail
  go_ret2
  refine⟨a3,0,v,j,bad,rfl,a4,?_⟩;rcases a2 with⟨rfl,d,rfl,_,hd⟩ | ⟨rfl,hd⟩
  ·exact Or.inl ⟨rfl,0,d,rfl,rfl,by simp[aY,HV.out,hd]⟩
  ·exact Or.inr ⟨rfl,by simp[aY,HV.out,hd]⟩
 ·have a5:=tf c 108 (by omega);have a7:((c:Int)==115)=true:=by rw[beq_iff_eq];omega
  have HV:Hid (c=115):=hv;clear hv
  go_in
  go_wp2_with fail;refine(cL b s i src bi vc vt _ _ nl rfl hs hR).mono ?_;rintro en w1 ⟨a3,v,j,bad,rfl,a4,a2⟩;go_wp2_with fail
  go_ret2
  refine⟨a3,0,v,j,bad,rfl,a4,?_⟩;rcases a2 with⟨rfl,d,rfl,_,hd⟩ | ⟨rfl,hd⟩
  ·exact Or.inl ⟨rfl,0,d,rfl,rfl,by simp[aY,HV.out,hd]⟩
  ·exact Or.inr ⟨rfl,by simp[aY,HV.out,hd]⟩
theorem Ai (base top:Nat) (cs:List Cls) (gs:List Sig) (v2:Value) (c nl:Nat) (hc:c<256) (hnl:nl≤5) (hs:s.size≤2000) (hbi:b≠bi) (hbb:b<base) (hR:RdB w b s i false src bi vc vt) (hH:dC w base top bi cs gs v2) (hv:c=107):
  Calls Tryz.prog 189 #[.pointer (some ⟨b,0,none⟩),.int .u8 c,.int .i64 nl] w fun en w'=>But (· =b) w w'∧ ∃(x y:Int) (j:Nat) (bad:Bool),en= .returned (.tuple #[.int .i64 x,.int .i64 y])∧RdB w' b s j bad src bi vc vt∧((bad=false∧ ∃a d:Nat,x=a∧y=d∧aY s cs gs.length nl c i= .ok (a,d,j))∨(bad=true∧aY s cs gs.length nl c i= .error j)):=by
 obtain⟨b2,b0,b1,v0,v1,hI,hO,a4,_⟩:=hH;obtain⟨a0,cap0,rfl⟩:=aq hO;obtain⟨a1,cap1,rfl⟩:=aq a4;have c2:=hR.c2;have c4:=hR.c4;have d0:=hI.c0;have d1:=hI.c1;have a7:=tf c 108 (by omega);have a8:=tf c 115 (by omega);have a6:((c:Int)==107)=true:=by rw[beq_iff_eq];omega
 have HV:Hid (c=107):=hv;clear hv
 go_in
 go_wp2_with fail;refine(cL b s i src bi vc vt _ _ 10 rfl hs hR).mono ?_;rintro en w1 ⟨a3,v,j,bad,rfl,a5,a2⟩;go_wp2_with fail
 go_ret2
 refine⟨a3,0,v,j,bad,rfl,a5,?_⟩;rcases a2 with⟨rfl,d,rfl,_,hd⟩ | ⟨rfl,hd⟩
 ·exact Or.inl ⟨rfl,0,d,rfl,rfl,by simp[aY,HV.out,hd]⟩
 ·exact Or.inr ⟨rfl,by simp[aY,HV.out,hd]⟩
theorem yY (base top:Nat) (cs:List Cls) (gs:List Sig) (v2:Value) (c nl:Nat) (hc:c<256) (hnl:nl≤5) (hs:s.size≤2000) (hbi:b≠bi) (hbb:b<base) (hR:RdB w b s i false src bi vc vt) (hH:dC w base top bi cs gs v2) (hv:c=110∨c=120):
  Calls Tryz.prog 189 #[.pointer (some ⟨b,0,none⟩),.int .u8 c,.int .i64 nl] w fun en w'=>But (· =b) w w'∧ ∃(x y:Int) (j:Nat) (bad:Bool),en= .returned (.tuple #[.int .i64 x,.int .i64 y])∧RdB w' b s j bad src bi vc vt∧((bad=false∧ ∃a d:Nat,x=a∧y=d∧aY s cs gs.length nl c i= .ok (a,d,j))∨(bad=true∧aY s cs gs.length nl c i= .error j)):=by
 obtain⟨b4,b0,b3,v0,v1,hI,hO,b1,_⟩:=hH;obtain⟨a0,cap0,rfl⟩:=aq hO;obtain⟨a1,cap1,rfl⟩:=aq b1;have c2:=hR.c2;have c4:=hR.c4;have d0:=hI.c0;have d1:=hI.c1;rcases hv with hv|hv
 ·have a6:=tf c 108 (by omega);have a8:=tf c 115 (by omega);have a5:=tf c 107 (by omega);have a7:((c:Int)==110)=true:=by rw[beq_iff_eq];omega
  have HV:Hid (c=110):=hv;clear hv
  go_in
  go_wp2_with fail;refine(eM b s i src bi vc vt _ _ cs.length rfl b0 hs hR).mono ?_;rintro en w1 ⟨a3,v,j,bad,rfl,a4,a2⟩;go_wp2_with fail
  go_ret2
  refine⟨a3,v,0,j,bad,rfl,a4,?_⟩;rcases a2 with⟨rfl,d,rfl,_,hd⟩ | ⟨rfl,hd⟩
  ·exact Or.inl ⟨rfl,d,0,rfl,rfl,by simp[aY,HV.out,hd]⟩
  ·exact Or.inr ⟨rfl,by simp[aY,HV.out,hd]⟩
 ·have a6:=tf c 108 (by omega);have a8:=tf c 115 (by omega);have a5:=tf c 107 (by omega);have a7:=tf c 110 (by omega);have b2:((c:Int)==120)=true:=by rw[beq_iff_eq];omega
  have HV:Hid (c=120):=hv;clear hv
  go_in
  go_wp2_with fail;refine(eM b s i src bi vc vt _ _ cs.length rfl b0 hs hR).mono ?_;rintro en w1 ⟨a3,v,j,bad,rfl,a4,a2⟩;go_wp2_with fail
  go_ret2
  refine⟨a3,v,0,j,bad,rfl,a4,?_⟩;rcases a2 with⟨rfl,d,rfl,_,hd⟩ | ⟨rfl,hd⟩
  ·exact Or.inl ⟨rfl,d,0,rfl,rfl,by simp[aY,HV.out,hd]⟩
  ·exact Or.inr ⟨rfl,by simp[aY,HV.out,hd]⟩
theorem yZ (base top:Nat) (cs:List Cls) (gs:List Sig) (v2:Value) (c nl:Nat) (hc:c<256) (hnl:nl≤5) (hs:s.size≤2000) (hbi:b≠bi) (hbb:b<base) (hR:RdB w b s i false src bi vc vt) (hH:dC w base top bi cs gs v2) (hv:c=103∨c=112):
  Calls Tryz.prog 189 #[.pointer (some ⟨b,0,none⟩),.int .u8 c,.int .i64 nl] w fun en w'=>But (· =b) w w'∧ ∃(x y:Int) (j:Nat) (bad:Bool),en= .returned (.tuple #[.int .i64 x,.int .i64 y])∧RdB w' b s j bad src bi vc vt∧((bad=false∧ ∃a d:Nat,x=a∧y=d∧aY s cs gs.length nl c i= .ok (a,d,j))∨(bad=true∧aY s cs gs.length nl c i= .error j)):=by
 obtain⟨f1,e5,f0,v0,v1,hI,hO,e6,_⟩:=hH;obtain⟨a0,cap0,rfl⟩:=aq hO;obtain⟨a1,cap1,rfl⟩:=aq e6;have c2:=hR.c2;have c4:=hR.c4;have d0:=hI.c0;have d1:=hI.c1;rcases hv with hv|hv
 ·have d6:=tf c 108 (by omega);have e1:=tf c 115 (by omega);have c7:=tf c 107 (by omega);have e0:=tf c 110 (by omega);have e3:=tf c 120 (by omega);have b6:((c:Int)==103)=true:=by rw[beq_iff_eq];omega
  have HV:Hid (c=103):=hv;clear hv
  go_in
  go_wp2_with fail;refine(eM b s i src bi vc vt _ _ cs.length rfl e5 hs hR).mono ?_;rintro en w1 ⟨a3,v,j,bad,rfl,a4,a2⟩;have e2:=a4.c2;have e4:=a4.c4;have a6:=hI.but a3 (fun h=>hbi h.symm);have g0:=a6.c0;have g1:=a6.c1;clear c2 c4 d0 d1;rcases a2 with⟨rfl,d,rfl,b2,hd⟩ | ⟨rfl,hd⟩
  ·have HD:Hid (dH s cs.length i= .ok (d,j)):=hd;clear hd;have ha:=List.getElem?_eq_getElem b2;obtain⟨ga,capa,a7,e7,b3,b4⟩:=fy (ah hO a3 (fun g hg h=>by have:=aj hO g hg;omega)) (fk ha);have b1:a0=some ⟨ga,0,none⟩:=by injection a7
   subst b1;have e8:(d:Int)<(cs.length:Int):=by omega
   have b5:bU cs d=cs[d].fields.length:=by simp[bU,ha]
   clear a7;go_wp2_with fail;refine(cL b s j src bi vc vt _ _ (bU cs d) (by rw[b5]) hs a4).mono ?_;rintro en w2 ⟨a8,v,l,bad,rfl,b0,a2⟩;go_wp2_with fail
   go_ret2
   refine⟨a3.trans a8,d,v,l,bad,rfl,b0,?_⟩;rcases a2 with⟨rfl,d2,rfl,_,a5⟩ | ⟨rfl,a5⟩
   ·exact Or.inl ⟨rfl,d,d2,rfl,rfl,by simp[aY,HV.out,HD.out,a5]⟩
   ·exact Or.inr ⟨rfl,by simp[aY,HV.out,HD.out,a5]⟩
  ·have HD:Hid (dH s cs.length i= .error j):=hd;clear hd;go_wp2_with fail
   go_ret2
   exact⟨a3,_,_,j,true,rfl,a4,Or.inr ⟨rfl,by simp[aY,HV.out,HD.out]⟩⟩
 ·have d6:=tf c 108 (by omega);have e1:=tf c 115 (by omega);have c7:=tf c 107 (by omega);have e0:=tf c 110 (by omega);have e3:=tf c 120 (by omega);have b6:=tf c 103 (by omega);have e9:((c:Int)==112)=true:=by rw[beq_iff_eq];omega
  have HV:Hid (c=112):=hv;clear hv
  go_in
  go_wp2_with fail;refine(eM b s i src bi vc vt _ _ cs.length rfl e5 hs hR).mono ?_;rintro en w1 ⟨a3,v,j,bad,rfl,a4,a2⟩;have e2:=a4.c2;have e4:=a4.c4;have a6:=hI.but a3 (fun h=>hbi h.symm);have g0:=a6.c0;have g1:=a6.c1;clear c2 c4 d0 d1;rcases a2 with⟨rfl,d,rfl,b2,hd⟩ | ⟨rfl,hd⟩
  ·have HD:Hid (dH s cs.length i= .ok (d,j)):=hd;clear hd;have ha:=List.getElem?_eq_getElem b2;obtain⟨ga,capa,a7,e7,b3,b4⟩:=fy (ah hO a3 (fun g hg h=>by have:=aj hO g hg;omega)) (fk ha);have b1:a0=some ⟨ga,0,none⟩:=by injection a7
   subst b1;have e8:(d:Int)<(cs.length:Int):=by omega
   have b5:bU cs d=cs[d].fields.length:=by simp[bU,ha]
   clear a7;go_wp2_with fail;refine(cL b s j src bi vc vt _ _ (bU cs d) (by rw[b5]) hs a4).mono ?_;rintro en w2 ⟨a8,v,l,bad,rfl,b0,a2⟩;go_wp2_with fail
   go_ret2
   refine⟨a3.trans a8,d,v,l,bad,rfl,b0,?_⟩;rcases a2 with⟨rfl,d2,rfl,_,a5⟩ | ⟨rfl,a5⟩
   ·exact Or.inl ⟨rfl,d,d2,rfl,rfl,by simp[aY,HV.out,HD.out,a5]⟩
   ·exact Or.inr ⟨rfl,by simp[aY,HV.out,HD.out,a5]⟩
  ·have HD:Hid (dH s cs.length i= .error j):=hd;clear hd;go_wp2_with fail
   go_ret2
   exact⟨a3,_,_,j,true,rfl,a4,Or.inr ⟨rfl,by simp[aY,HV.out,HD.out]⟩⟩
theorem Aj (base top:Nat) (cs:List Cls) (gs:List Sig) (v2:Value) (c nl:Nat) (hc:c<256) (hnl:nl≤5) (hs:s.size≤2000) (hbi:b≠bi) (hbb:b<base) (hR:RdB w b s i false src bi vc vt) (hH:dC w base top bi cs gs v2) (hv:c=99):
  Calls Tryz.prog 189 #[.pointer (some ⟨b,0,none⟩),.int .u8 c,.int .i64 nl] w fun en w'=>But (· =b) w w'∧ ∃(x y:Int) (j:Nat) (bad:Bool),en= .returned (.tuple #[.int .i64 x,.int .i64 y])∧RdB w' b s j bad src bi vc vt∧((bad=false∧ ∃a d:Nat,x=a∧y=d∧aY s cs gs.length nl c i= .ok (a,d,j))∨(bad=true∧aY s cs gs.length nl c i= .error j)):=by
 obtain⟨e3,b1,e1,v0,v1,hI,hO,a8,_⟩:=hH;obtain⟨a0,cap0,rfl⟩:=aq hO;obtain⟨a1,cap1,rfl⟩:=aq a8;have c2:=hR.c2;have c4:=hR.c4;have d0:=hI.c0;have d1:=hI.c1;have b4:=tf c 108 (by omega);have c7:=tf c 115 (by omega);have b3:=tf c 107 (by omega);have b5:=tf c 110 (by omega);have d6:=tf c 120 (by omega);have b2:=tf c 103 (by omega);have b6:=tf c 112 (by omega);have e5:((c:Int)==99)=true:=by rw[beq_iff_eq];omega
 have HV:Hid (c=99):=hv;clear hv
 go_in
 go_wp2_with fail;refine(eM b s i src bi vc vt _ _ cs.length rfl b1 hs hR).mono ?_;rintro en w1 ⟨a4,v,j,bad,rfl,a3,a2⟩;have e2:=a3.c2;have e4:=a3.c4;have a6:=hI.but a4 (fun h=>hbi h.symm);have g0:=a6.c0;have g1:=a6.c1;clear c2 c4 d0 d1;rcases a2 with⟨rfl,d,rfl,e0,hd⟩ | ⟨rfl,hd⟩
 ·have HD:Hid (dH s cs.length i= .ok (d,j)):=hd;clear hd;go_wp2_with fail;refine(cL b s j src bi vc vt _ _ gs.length rfl hs a3).mono ?_;rintro en w2 ⟨a7,v,l,bad,rfl,b0,a2⟩;go_wp2_with fail
  go_ret2
  refine⟨a4.trans a7,d,v,l,bad,rfl,b0,?_⟩;rcases a2 with⟨rfl,d2,rfl,_,a5⟩ | ⟨rfl,a5⟩
  ·exact Or.inl ⟨rfl,d,d2,rfl,rfl,by simp[aY,HV.out,HD.out,a5]⟩
  ·exact Or.inr ⟨rfl,by simp[aY,HV.out,HD.out,a5]⟩
 ·have HD:Hid (dH s cs.length i= .error j):=hd;clear hd;go_wp2_with fail
  go_ret2
  exact⟨a4,_,_,j,true,rfl,a3,Or.inr ⟨rfl,by simp[aY,HV.out,HD.out]⟩⟩
theorem y7 (base top:Nat) (cs:List Cls) (gs:List Sig) (v2:Value) (c nl:Nat) (hc:c<256) (hnl:nl≤5) (hs:s.size≤2000) (hbi:b≠bi) (hbb:b<base) (hR:RdB w b s i false src bi vc vt) (hH:dC w base top bi cs gs v2) (hv:c=106∨c=102):
  Calls Tryz.prog 189 #[.pointer (some ⟨b,0,none⟩),.int .u8 c,.int .i64 nl] w fun en w'=>But (· =b) w w'∧ ∃(x y:Int) (j:Nat) (bad:Bool),en= .returned (.tuple #[.int .i64 x,.int .i64 y])∧RdB w' b s j bad src bi vc vt∧((bad=false∧ ∃a d:Nat,x=a∧y=d∧aY s cs gs.length nl c i= .ok (a,d,j))∨(bad=true∧aY s cs gs.length nl c i= .error j)):=by
 obtain⟨e9,e7,e8,v0,v1,hI,hO,e1,_⟩:=hH;obtain⟨a0,cap0,rfl⟩:=aq hO;obtain⟨a1,cap1,rfl⟩:=aq e1;have c2:=hR.c2;have c4:=hR.c4;have d0:=hI.c0;have d1:=hI.c1;rcases hv with hv|hv
 ·have b5:=tf c 108 (by omega);have d6:=tf c 115 (by omega);have b4:=tf c 107 (by omega);have b6:=tf c 110 (by omega);have e0:=tf c 120 (by omega);have b2:=tf c 103 (by omega);have c7:=tf c 112 (by omega);have e6:=tf c 99 (by omega);have b3:((c:Int)==106)=true:=by rw[beq_iff_eq];omega
  have HV:Hid (c=106):=hv;clear hv
  go_in
  go_wp2_with fail;refine(cL b s i src bi vc vt _ _ 10 rfl hs hR).mono ?_;rintro en w1 ⟨a4,v,j,bad,rfl,a5,a2⟩;have e2:=a5.c2;have e4:=a5.c4;have a8:=hI.but a4 (fun h=>hbi h.symm);have g0:=a8.c0;have g1:=a8.c1;clear c2 c4 d0 d1;rcases a2 with⟨rfl,d,rfl,e3,hd⟩ | ⟨rfl,hd⟩
  ·have HD:Hid (de s 10 i= .ok (d,j)):=hd;clear hd;go_wp2_with fail;refine(cL b s j src bi vc vt _ _ 10 rfl hs a5).mono ?_;rintro en w2 ⟨a7,v,l,bad,rfl,b0,a2⟩;rcases a2 with⟨rfl,d2,rfl,b1,a3⟩ | ⟨rfl,a3⟩
   ·have a6:Hid (de s 10 j= .ok (d2,l)):=a3;clear a3;go_wp2_with fail
    go_ret2
    exact⟨a4.trans a7,0,10*(d:Int)+d2,l,false,rfl,b0,Or.inl ⟨rfl,0,10*d+d2,rfl,by simp,by simp[aY,HV.out,HD.out,a6.out]⟩⟩
   ·have a6:Hid (de s 10 j= .error l):=a3;clear a3;go_wp2_with fail
    go_ret2
    exact⟨a4.trans a7,0,_,l,true,rfl,b0,Or.inr ⟨rfl,by simp[aY,HV.out,HD.out,a6.out]⟩⟩
  ·have HD:Hid (de s 10 i= .error j):=hd;clear hd;go_wp2_with fail
   go_ret2
   exact⟨a4,_,_,j,true,rfl,a5,Or.inr ⟨rfl,by simp[aY,HV.out,HD.out]⟩⟩
 ·have b5:=tf c 108 (by omega);have d6:=tf c 115 (by omega);have b4:=tf c 107 (by omega);have b6:=tf c 110 (by omega);have e0:=tf c 120 (by omega);have b2:=tf c 103 (by omega);have c7:=tf c 112 (by omega);have e6:=tf c 99 (by omega);have b3:=tf c 106 (by omega);have e5:((c:Int)==102)=true:=by rw[beq_iff_eq];omega
  have HV:Hid (c=102):=hv;clear hv
  go_in
  go_wp2_with fail;refine(cL b s i src bi vc vt _ _ 10 rfl hs hR).mono ?_;rintro en w1 ⟨a4,v,j,bad,rfl,a5,a2⟩;have e2:=a5.c2;have e4:=a5.c4;have a8:=hI.but a4 (fun h=>hbi h.symm);have g0:=a8.c0;have g1:=a8.c1;clear c2 c4 d0 d1;rcases a2 with⟨rfl,d,rfl,e3,hd⟩ | ⟨rfl,hd⟩
  ·have HD:Hid (de s 10 i= .ok (d,j)):=hd;clear hd;go_wp2_with fail;refine(cL b s j src bi vc vt _ _ 10 rfl hs a5).mono ?_;rintro en w2 ⟨a7,v,l,bad,rfl,b0,a2⟩;rcases a2 with⟨rfl,d2,rfl,b1,a3⟩ | ⟨rfl,a3⟩
   ·have a6:Hid (de s 10 j= .ok (d2,l)):=a3;clear a3;go_wp2_with fail
    go_ret2
    exact⟨a4.trans a7,0,10*(d:Int)+d2,l,false,rfl,b0,Or.inl ⟨rfl,0,10*d+d2,rfl,by simp,by simp[aY,HV.out,HD.out,a6.out]⟩⟩
   ·have a6:Hid (de s 10 j= .error l):=a3;clear a3;go_wp2_with fail
    go_ret2
    exact⟨a4.trans a7,0,_,l,true,rfl,b0,Or.inr ⟨rfl,by simp[aY,HV.out,HD.out,a6.out]⟩⟩
  ·have HD:Hid (de s 10 i= .error j):=hd;clear hd;go_wp2_with fail
   go_ret2
   exact⟨a4,_,_,j,true,rfl,a5,Or.inr ⟨rfl,by simp[aY,HV.out,HD.out]⟩⟩
theorem y8 (base top:Nat) (cs:List Cls) (gs:List Sig) (v2:Value) (c nl:Nat) (hc:c<256) (hnl:nl≤5) (hs:s.size≤2000) (hbi:b≠bi) (hbb:b<base) (hR:RdB w b s i false src bi vc vt) (hH:dC w base top bi cs gs v2) (hv:c≠108∧c≠115∧c≠107∧c≠110∧c≠120∧c≠103∧c≠112∧c≠99∧c≠106∧c≠102):
  Calls Tryz.prog 189 #[.pointer (some ⟨b,0,none⟩),.int .u8 c,.int .i64 nl] w fun en w'=>But (· =b) w w'∧ ∃(x y:Int) (j:Nat) (bad:Bool),en= .returned (.tuple #[.int .i64 x,.int .i64 y])∧RdB w' b s j bad src bi vc vt∧((bad=false∧ ∃a d:Nat,x=a∧y=d∧aY s cs gs.length nl c i= .ok (a,d,j))∨(bad=true∧aY s cs gs.length nl c i= .error j)):=by
 obtain⟨b5,b3,b4,v0,v1,hI,hO,a2,_⟩:=hH;obtain⟨a0,cap0,rfl⟩:=aq hO;obtain⟨a1,cap1,rfl⟩:=aq a2;have c2:=hR.c2;have c4:=hR.c4;have d0:=hI.c0;have d1:=hI.c1;have a7:=tf c 108 (by omega);have b1:=tf c 115 (by omega);have a6:=tf c 107 (by omega);have a8:=tf c 110 (by omega);have b2:=tf c 120 (by omega);have a4:=tf c 103 (by omega);have b0:=tf c 112 (by omega);have b6:=tf c 99 (by omega);have a5:=tf c 106 (by omega);have a3:=tf c 102 (by omega);have HV:Hid (c≠108∧c≠115∧c≠107∧c≠110∧c≠120∧c≠103∧c≠112∧c≠99∧c≠106∧c≠102):=hv;clear hv
 go_in
 go_wp2_with fail
 go_ret2
 have hv:=HV.out;exact⟨But.refl _ _,0,0,i,false,rfl,hR,Or.inl ⟨rfl,0,0,rfl,rfl,by simp[aY,hv.1,hv.2.1,hv.2.2.1,hv.2.2.2.1,hv.2.2.2.2.1,hv.2.2.2.2.2.1,hv.2.2.2.2.2.2.1,hv.2.2.2.2.2.2.2.1,hv.2.2.2.2.2.2.2.2.1,hv.2.2.2.2.2.2.2.2.2]⟩⟩
theorem wX (base top:Nat) (cs:List Cls) (gs:List Sig) (v2:Value) (c nl:Nat) (hc:c<256) (hnl:nl≤5) (hs:s.size≤2000) (hbi:b≠bi) (hbb:b<base) (hR:RdB w b s i false src bi vc vt) (hH:dC w base top bi cs gs v2):
 Calls Tryz.prog 189 #[.pointer (some ⟨b,0,none⟩),.int .u8 c,.int .i64 nl] w fun en w'=>But (· =b) w w'∧ ∃(x y:Int) (j:Nat) (bad:Bool),en= .returned (.tuple #[.int .i64 x,.int .i64 y])∧RdB w' b s j bad src bi vc vt∧((bad=false∧ ∃a d:Nat,x=a∧y=d∧aY s cs gs.length nl c i= .ok (a,d,j))∨(bad=true∧aY s cs gs.length nl c i= .error j)):=by
 by_cases h1:c=108∨c=115
 ·exact yX b s i src bi vc vt w base top cs gs v2 c nl hc hnl hs hbi hbb hR hH h1
 by_cases h2:c=107
 ·exact Ai b s i src bi vc vt w base top cs gs v2 c nl hc hnl hs hbi hbb hR hH h2
 by_cases h3:c=110∨c=120
 ·exact yY b s i src bi vc vt w base top cs gs v2 c nl hc hnl hs hbi hbb hR hH h3
 by_cases h4:c=103∨c=112
 ·exact yZ b s i src bi vc vt w base top cs gs v2 c nl hc hnl hs hbi hbb hR hH h4
 by_cases h5:c=99
 ·exact Aj b s i src bi vc vt w base top cs gs v2 c nl hc hnl hs hbi hbb hR hH h5
 by_cases h6:c=106∨c=102
 ·exact y7 b s i src bi vc vt w base top cs gs v2 c nl hc hnl hs hbi hbb hR hH h6
 exact y8 b s i src bi vc vt w base top cs gs v2 c nl hc hnl hs hbi hbb hR hH (by omega)
end
theorem nJ (l:List UInt8) (k:Nat) (p:UInt8→Bool) (h:k<l.length):(l.take (k+1)).any p=((l.take k).any p||p l[k]):=by
 rw[List.take_succ_eq_append_getElem h,List.any_append];simp
theorem AY (s:ByteArray) (k:Nat) (h:k<s.size) (h':k<s.data.toList.length):s.data.toList[k]=s[k]:=Array.getElem_toList (xs:=s.data) (i:=k) h
theorem blen (s:ByteArray):s.data.toList.length=s.size:=Array.length_toList
theorem uF (s:ByteArray) (c:Nat) (w:World) (hs:s.size≤2000):
  Calls Tryz.prog 186 #[.int .u8 c,.string s] w fun en w'=>en= .returned (.bool (s.data.toList.any fun x=>x.toNat==c))∧w'=w:=by
 obtain⟨bb,a1⟩: ∃bb,(s.data.toList.any fun x=>x.toNat==c)=bb:=⟨_,rfl⟩;rw[a1];have HB:Hid ((s.data.toList.any fun x=>x.toNat==c)=bb):=a1;clear a1
 go_in
 go_wp2
 go_loop [5] (fun t=> ∃k:Nat,k≤s.size∧t= .int .i64 k∧Hid ((s.data.toList.take k).any (fun x=>x.toNat==c)=false)) (fun t=>s.size-(intOf t).toNat)
 case atStart=>exact⟨0,Nat.zero_le _,rfl,by show _=_;simp⟩
 case round=>
  obtain⟨k,hk,rfl,HA⟩:=hrel
  by_cases hlt:k<s.size
  ·by_cases he:s[k].toNat=c
   ·have hb:((s[k].toNat:Int)==(c:Int))=true:=by rw[beq_iff_eq];omega
    have a0:bb=true:=by
     rw[←HB.out,List.any_eq_true];exact⟨s[k],by rw[←AY s k hlt (by rw[blen];exact hlt)];exact List.getElem_mem _,by simp[he]⟩
    subst a0;clear he
    go_wp2
    go_ret;exact⟨rfl,rfl⟩
   ·have hb:((s[k].toNat:Int)==(c:Int))=false:=by rw[beq_eq_false_iff_ne];omega
    have HN:Hid ((s.data.toList.take (k+1)).any (fun x=>x.toNat==c)=false):=by
     show _=_
     rw[nJ _ _ _ (by rw[blen];exact hlt),HA.out,AY s k hlt];simp[he]
    clear he
    go_wp2
    go_round
    case rel=>exact⟨k+1,by omega,by go_num,HN⟩
    case measure=>simp[intOf];omega
  ·have a0:bb=false:=by
    have:=HA.out;rw[List.take_of_length_le (by rw[blen];omega)]at this;rw[←HB.out,this]
   subst a0
   go_wp2
   go_ret;exact⟨rfl,rfl⟩
def iW:List UInt8:=[107,114,119,108,115,43,45,42,47,60,61,101,110,122,103,112,99,120,100,106,102,116]
theorem lQ:iW.map (fun x=>x.toNat)=bZ:=by decide
theorem lT (c:Nat):(iW.any fun x=>x.toNat==c)=bZ.contains c:=by
 rw[←lQ,List.contains_eq_any_beq,List.any_map]
 congr 1
 funext x
 exact Bool.beq_comm
theorem fI (c:Nat) (w:World):
  Calls Tryz.prog 186 #[.int .u8 c,.string ⟨#[107,114,119,108,115,43,45,42,47,60,61,101,110,122,103,112,99,120,100,106,102,116]⟩] w fun en w'=>en= .returned (.bool (bZ.contains c))∧w'=w:=by
 rw[←lT];exact uF ⟨iW.toArray⟩ c w (by decide)
theorem wY:(Tryz.prog.info? 144).map (fun i=>(i.zero,i.size,i.bytes))=some (some (.agg #[.int .u8 0,.int .i64 0,.int .i64 0,.int .i64 0]),4,32):=by kernel_rfl
theorem dC.but {F:Nat→Prop} {w w':World} {base top bi:Nat} {cs:List Cls} {gs:List Sig} {v2:Value} (h:dC w base top bi cs gs v2) (hb:But F w w') (hbi: ¬F bi) (hF: ∀k,F k→k<base∨top≤k):dC w' base top bi cs gs v2:=by
 obtain⟨h1,h2,h3,v0,v1,hI,hO,a0,ht⟩:=h;exact⟨h1,h2,h3,v0,v1,hI.but hb hbi,ah hO hb (fun g hg h=>by have:=aj hO g hg;have:=hF g h;have:=ht g (Or.inl hg);omega),ah a0 hb (fun g hg h=>by have:=aj a0 g hg;have:=hF g h;have:=ht g (Or.inr hg);omega),ht⟩
section
variable (b:Nat) (s:ByteArray) (i:Nat) (src:Bool) (bi:Nat) (vt:Value) (w:World)
theorem wZ (base top:Nat) (cs:List Cls) (gs:List Sig) (v2:Value) (nl:Nat) (hnl:nl≤5) (hs:s.size≤2000) (hbi:b≠bi) (hbb:b<base) (hR:RdB w b s i false src bi (.slice none 0 0) vt) (hH:dC w base top bi cs gs v2):
  Calls Tryz.prog 134 #[.pointer (some ⟨b,0,none⟩),.int .i64 nl] w fun en w'=>en= .returned (.tuple #[])∧But (· =b) w w'∧
   ∃j bad vc,RdB w' b s j bad src bi vc vt∧((bad=false∧ ∃is:List Ins,cD s cs gs.length nl 100 [] i= .ok (is,j+1)∧(pk s j).toNat=46∧is.length≤100∧w'.ownsRow w.heap.size 144 4 vc is.length (cz is))∨(bad=true∧cD s cs gs.length nl 100 [] i= .error j)):=by
 obtain⟨R,e0⟩: ∃R,cD s cs gs.length nl 100 [] i=R:=⟨_,rfl⟩;rw[e0];have e8:Hid (cD s cs gs.length nl 100 [] i=R):=e0;clear e0;obtain⟨i0,f8,g3,g4,g5⟩:=info_parts wY
 go_in
 go_wp2_with (go_at_call 127;refine(bG b s i false src bi _ vt _ hs hR).mono ?_;rintro en w' ⟨rfl,nn,rfl⟩)
 go_loopg [4] 101 (fun m c wr=> ∃(i':Nat) (bad':Bool) (vc:Value),c= .int .u8 (pk s i').toNat∧But (· =b) w wr∧RdB wr b s i' bad' src bi vc vt∧
  ((bad'=false∧ ∃f is,m=f+1∧f+List.length is=100∧cD s cs gs.length nl f is i'=R∧wr.ownsRow w.heap.size 144 4 vc is.length (cz is))∨(bad'=true∧m=0∧R= .error i')))
 case atStart=>exact⟨i,false,_,rfl,But.drewN _ _ _,hR.drewN _,Or.inl ⟨rfl,100,[],rfl,rfl,e8.out,du _ _ _ _⟩⟩
 case round=>
  obtain⟨i',bad',vc,rfl,hB,a1,a2⟩:=hrel;have c1:=a1.c1;have c2:=a1.c2;have c5:=a1.c5;have f1:=a1.fz 1;have f2:=a1.fz 2;rcases a2 with⟨rfl,f,is,rfl,f5,e6,a5⟩ | ⟨rfl,rfl,rfl⟩
  ·have HT:Hid (cD s cs gs.length nl f is i'=R):=e6;have f6:f+is.length≤100:=by omega
   have f7:100≤f+is.length:=by omega
   have blt:=a1.lt;clear e6 f5;obtain⟨ao,cap,rfl⟩:=aq a5
   by_cases hpe:(pk s i').toNat=46∧is≠ []
   · --the end
    have b5:(((pk s i').toNat:Int)!=46)=false:=by rw[bne_eq_false_iff_eq];omega
    have b4:0<is.length:=List.length_pos_iff.2 hpe.2;have g0:=tf is.length 0 (by omega);have a4:R= .ok (is,i'+1):=by rw[←HT.out];cases f<;>simp[cD,hpe]
    have HP:Hid ((pk s i').toNat=46):=hpe.1;subst a4;clear HT hpe;go_wp2_with fail;go_end0;exact⟨rfl,hB,i',false,_,a1,Or.inl ⟨rfl,is,rfl,HP.out,by omega,a5⟩⟩
   ·have b0:Hid (¬((pk s i').toNat=46∧is≠ [])):=hpe;clear hpe
    cases f with
    |zero=>
     have a4:R= .error i':=by rw[←HT.out];simp only[cD,if_neg b0.out]
     subst a4;have e1:(100:Int)≤(is.length:Int):=by omega
     have b4:is≠ []:=List.length_pos_iff.1 (by omega)
     have b5:(((pk s i').toNat:Int)!=46)=true:=by
      rw[bne_iff_ne];intro h;exact b0.out ⟨by omega,b4⟩
     clear HT b4
     cases hk:bZ.contains (pk s i').toNat with
     |true=>
      go_wp2_with (go_at_call 186;refine(fI (pk s i').toNat _).mono ?_;rw[hk];rintro en wx ⟨rfl,a0⟩;rw[a0];clear a0 wx);exact fV Tryz.results134 rfl ⟨rfl,hB.trans (But.setB _ _ _ _),i',true,_,a1.set2 true,Or.inr ⟨rfl,rfl⟩⟩
     |false=>
      go_wp2_with (go_at_call 186;refine(fI (pk s i').toNat _).mono ?_;rw[hk];rintro en wx ⟨rfl,a0⟩;rw[a0];clear a0 wx);exact fV Tryz.results134 rfl ⟨rfl,hB.trans (But.setB _ _ _ _),i',true,_,a1.set2 true,Or.inr ⟨rfl,rfl⟩⟩
    |succ f=>
     have e1: ¬(100:Int)≤(is.length:Int):=by omega
     cases hk:bZ.contains (pk s i').toNat with
     |false=>
      have a4:R= .error i':=by rw[←HT.out];simp only[cD,if_neg b0.out,j6,hk];rfl
      subst a4
      have a2:(((pk s i').toNat:Int)!=46)=true∨((((pk s i').toNat:Int)!=46)=false∧((is.length:Int)==0)=true):=by
       by_cases h:(pk s i').toNat=46
       ·right
        refine⟨by rw[bne_eq_false_iff_eq];omega,?_⟩;have:is=[]:=Classical.byContradiction fun h'=>b0.out ⟨h,h'⟩
        rw[this];rfl
       ·left;rw[bne_iff_ne];omega
      clear HT;rcases a2 with b5| ⟨b5,b4⟩
      ·go_wp2_with (go_at_call 186;refine(fI (pk s i').toNat _).mono ?_;rw[hk];rintro en wx ⟨rfl,a0⟩;rw[a0];clear a0 wx);exact fV Tryz.results134 rfl ⟨rfl,hB.trans (But.setB _ _ _ _),i',true,_,a1.set2 true,Or.inr ⟨rfl,rfl⟩⟩
      ·have g1:((0:Int)==0)=true:=rfl;go_wp2_with (go_at_call 186;refine(fI (pk s i').toNat _).mono ?_;rw[hk];rintro en wx ⟨rfl,a0⟩;rw[a0];clear a0 wx);exact fV Tryz.results134 rfl ⟨rfl,hB.trans (But.setB _ _ _ _),i',true,_,a1.set2 true,Or.inr ⟨rfl,rfl⟩⟩
     |true=>
      have e9:(pk s i').toNat≠46:=by intro h;rw[h]at hk;exact absurd hk (by decide)
      have h0:0<(pk s i').toNat:=by
       rcases Nat.eq_zero_or_pos (pk s i').toNat with h|h
       ·rw[h]at hk;exact absurd hk (by decide)
       ·exact h
      have hi:i'<s.size:=fg h0;have b5:(((pk s i').toNat:Int)!=46)=true:=by rw[bne_iff_ne];omega
      have f3:dC wr base top bi cs gs v2:=hH.but hB (fun h=>hbi h.symm) (fun k h=>by omega);have h1:=(pk s i').toNat_lt;have HK:Hid (bZ.contains (pk s i').toNat=true):=hk;have h4:=hB.size;have g7:=hR.lt;clear e9 h0;clear hk;go_wp2_with fail;refine(fI (pk s i').toNat _).mono ?_;rw[HK.out];rintro en wx ⟨rfl,a0⟩;rw[a0];clear a0 wx;go_wp2_with fail;refine(wX b s (i'+1) src bi _ vt _ base top cs gs v2 (pk s i').toNat nl (by omega) hnl hs hbi hbb a1.inc (f3.but (But.setB _ _ _ _) (fun h=>hbi h.symm) (fun k h=>by omega))).mono ?_;rintro en w1 ⟨f0,x,y,j,a8,rfl,b3,a7⟩;have e7:Hid ((a8=false∧ ∃a d:Nat,x=a∧y=d∧aY s cs gs.length nl (pk s i').toNat (i'+1)= .ok (a,d,j))∨(a8=true∧aY s cs gs.length nl (pk s i').toNat (i'+1)= .error j)):=a7
      clear a7;have e4:But (· =b) wr w1:=(But.setB _ _ _ _).trans f0;have e3:But (· =b) w w1:=hB.trans e4;have c7:=ah a5 e4 (fun g hg h=>by have:=aj a5 g hg;omega);have h3:=e3.size;have e5:=b3.c5;have q5:=b3.fz 5;have ab:(Value.slice ao is.length cap).ownBlock≠some b:=fun h=>by have:=aj c7 _ h;omega
      have b1:=b3.lt;clear c1 c2 c5 f1 f2;go_wp2_with (at_builtin;refine wpList_append_lies _ rfl _ _ _ rfl w.heap.size 144 i0 _ 4 32 Tryz.underlying49 f8 g3 g4 g5 rfl (by omega) _ is.length (cz is) rfl (c7.alloc _) ⟨w1.heap.size,0,none⟩ 1 1 [.int .u8 (pk s i').toNat,.int .i64 x,.int .i64 y,.int .i64 i'] rfl rfl (World.news_of_block (cs:=#[.int .u8 (pk s i').toNat,.int .i64 x,.int .i64 y,.int .i64 i']) (t:=144) (fr:=(0,0)) (heap_alloc_new w1 _)) (by simp[Value.oneCell']) (by omega) (by unfold maxLen;omega) (by omega) (by simp;omega) (w1.heap.size+1) (by simp) ?_);intro gg b6 w2 a3 a6 g6 g2;have b2:But (fun k=>(Value.slice ao is.length cap).ownBlock=some k) w1 w2:=(But.alloc _ _ _).trans (aX a6)
      have y0:=(b2.cell (p:=⟨b,5,none⟩) b1 ab).trans e5;have y1:=(b2.frozen (p:=⟨b,5,none⟩) b1 ab).trans q5;have d6:=b3.but b2 ab;have e2:But (· =b) w w2:=e3.next b2 (fun k hk h=>absurd (aj c7 k h) (by omega));have h2:=aj a3 gg rfl;have f4:=ah a3 (But.setB w2 b 5 (.slice (some ⟨gg,0,none⟩) (is.length+1) b6)) (fun g hg h=>by have:=aj a3 g hg;omega);clear e5 q5 b2 a6;go_wp2_with (go_at_call 127;refine(bG b s j a8 src bi _ vt _ hs (d6.set5 _)).mono ?_;rintro en w' ⟨rfl,n3,rfl⟩);rcases e7.out with⟨rfl,a,d,rfl,rfl,ht⟩ | ⟨rfl,ht⟩
      ·go_roundg (f+1)
       case measure=>omega
       case rel=>
        refine⟨j,false,_,rfl,(e2.trans (But.setB _ _ _ _)).trans (But.drewN _ _ _),(d6.set5 _).drewN _,Or.inl ⟨rfl,f,is++ [⟨pk s i',a,d,i'⟩],rfl,by simp;omega,?_,?_⟩⟩
        ·rw[←HT.out];simp only[cD,if_neg b0.out,j6,if_pos HK.out,ht]
        ·rw[nD,List.length_append];exact f4
      ·go_roundg 0
       case measure=>omega
       case rel=>
        refine⟨j,true,_,rfl,(e2.trans (But.setB _ _ _ _)).trans (But.drewN _ _ _),(d6.set5 _).drewN _,Or.inr ⟨rfl,rfl,?_⟩⟩;rw[←HT.out];simp only[cD,if_neg b0.out,j6,if_pos HK.out,ht]
  ·go_wp2_with fail;go_end0;exact⟨rfl,hB,i',true,_,a1,Or.inr ⟨rfl,rfl⟩⟩
end
end
end Go.Proofs.YtpfkkmacakjmbaaGreatDoor
