import Derived.Test.YtpfkkmacakjmbaaGreatDoorP00
set_option maxRecDepth 100000
set_option maxHeartbeats 6400000
set_option linter.unusedSimpArgs false
set_option linter.unusedVariables false
namespace Go.Proofs.YtpfkkmacakjmbaaGreatDoor
section
open Go Go.RowKit Sp
section
variable (b:Nat) (s:ByteArray) (i:Nat) (bad src:Bool) (bi:Nat) (vc vt:Value) (w:World)
theorem bK (_hs:s.size≤2000) (hR:RdB w b s i bad src bi vc vt):
  Calls Tryz.prog 127 #[.pointer (some ⟨b,0,none⟩)] w fun e w'=>e= .returned (.int .u8 (pk s i).toNat)∧ ∃n,w'=w.drewN n:=by
 have h0:=hR.c0;have h1:=hR.c1;clear hR
 by_cases hi:(i:Int)<(s.size:Int)
 ·have hp:pk s i=s[i]'(by omega):=by unfold pk;rw[dif_pos (by omega)]
  rw[hp];clear hp
  go_in
  go_wp2
  go_quiet (fail)
  go_wp2
  go_quiet (fail)
  go_wp2
  go_ret;exact⟨rfl,_,World.drewN_drewN _ _ _⟩
 ·have hp:pk s i=0:=by unfold pk;rw[dif_neg (by omega)]
  rw[hp];clear hp
  go_in
  go_wp2
  go_quiet (fail)
  go_wp2
  go_ret;exact⟨rfl,_,rfl⟩
theorem vR (c:UInt8) (hs:s.size≤2000) (hR:RdB w b s i bad src bi vc vt) (hc0:0<c.toNat) (hc:pk s i=c):
  Calls Tryz.prog 130 #[.pointer (some ⟨b,0,none⟩),.int .u8 c.toNat] w fun e w'=>e= .returned (.tuple #[])∧But (· =b) w w'∧RdB w' b s (i+1) bad src bi vc vt:=by
 have h1:=hR.c1;have f1:=hR.fz 1;have hi:i<s.size:=gG (hc▸hc0);have HC:Hid (pk s i=c):=hc;clear hc
 go_in
 go_wp2_with (go_at_call 127;refine(bK b s i bad src bi vc vt _ hs hR).mono ?_;rw[HC.out];rintro e w' ⟨rfl,n,rfl⟩);go_end0;exact⟨rfl,(But.drewN _ _ _).trans (But.setB _ _ _ _),by simpa using(hR.drewN n).set1 (i+1)⟩
theorem xT (c:UInt8) (hs:s.size≤2000) (hR:RdB w b s i bad src bi vc vt) (hc:pk s i≠c):
  Calls Tryz.prog 130 #[.pointer (some ⟨b,0,none⟩),.int .u8 c.toNat] w fun e w'=>e= .returned (.tuple #[])∧But (· =b) w w'∧RdB w' b s i true src bi vc vt:=by
 have h2:=hR.c2;have f2:=hR.fz 2
 have a0:(((pk s i).toNat:Int)==(c.toNat:Int))=false:=by
  rw[beq_eq_false_iff_ne];intro h;exact hc (UInt8.toNat_inj.1 (by omega))
 have a1:(((pk s i).toNat:Int)!=(c.toNat:Int))=true:=by simp[bne,a0]
 have a2: ¬(((pk s i).toNat:Int)=(c.toNat:Int)):=by simpa using a0
 clear hc
 go_in
 go_wp2_with (go_at_call 127;refine(bK b s i bad src bi vc vt _ hs hR).mono ?_;rintro e w' ⟨rfl,n,rfl⟩);go_end0;exact⟨rfl,(But.drewN _ _ _).trans (But.setB _ _ _ _),(hR.drewN n).set2 true⟩
theorem jS {n:Nat} {c:UInt8}:ej n c=true↔48≤c.toNat∧c.toNat≤57∧c.toNat<48+n:=by simp[ej,and_assoc]
theorem eJ {n:Nat} {c:UInt8}:aH n c=true↔65≤c.toNat∧c.toNat<65+n:=by simp[aH]
theorem jt {n:Nat} {c:UInt8}:cA n c=true↔c.toNat=105∨(65≤c.toNat∧c.toNat<65+n):=by simp[cA,aH]
theorem vS (n:Nat) (hs:s.size≤2000) (hR:RdB w b s i bad src bi vc vt) (hd:ej n (pk s i)=true):
  Calls Tryz.prog 131 #[.pointer (some ⟨b,0,none⟩),.int .i64 n] w fun e w'=>e= .returned (.int .i64 (((pk s i).toNat-48:Nat):Int))∧But (· =b) w w'∧RdB w' b s (i+1) bad src bi vc vt:=by
 have h1:=hR.c1;have f1:=hR.fz 1;obtain⟨d1,d2,d3⟩:=jS.1 hd;have hi:i<s.size:=gG (by omega);clear hd;obtain⟨m,hm⟩: ∃m:Nat,(pk s i).toNat=m:=⟨_,rfl⟩;rw[hm]at d1 d2 d3⊢;have HM:Hid ((pk s i).toNat=m):=hm;clear hm;have e1:(48:Int)≤m:=by omega
 have e2:(m:Int)≤57:=by omega
 have e3:(m:Int)-48<n:=by omega
 go_in
 go_wp2_with (go_at_call 127;refine(bK b s i bad src bi vc vt _ hs hR).mono ?_;rw[HM.out];rintro e w' ⟨rfl,k,rfl⟩);go_ret;exact⟨jM (by omega),(But.drewN _ _ _).trans (But.setB _ _ _ _),by simpa using(hR.drewN k).set1 (i+1)⟩
theorem ub (n:Nat) (hs:s.size≤2000) (hR:RdB w b s i bad src bi vc vt) (hd:ej n (pk s i)=false):
  Calls Tryz.prog 131 #[.pointer (some ⟨b,0,none⟩),.int .i64 n] w fun e w'=>e= .returned (.int .i64 0)∧But (· =b) w w'∧RdB w' b s i true src bi vc vt:=by
 have h2:=hR.c2;have f2:=hR.fz 2;have a1: ¬(48≤(pk s i).toNat∧(pk s i).toNat≤57∧(pk s i).toNat<48+n):=fun h=>by rw[jS.2 h]at hd;cases hd
 clear hd;have hb:=(pk s i).toNat_lt;obtain⟨m,hm⟩: ∃m:Nat,(pk s i).toNat=m:=⟨_,rfl⟩;rw[hm]at a1 hb;have HM:Hid ((pk s i).toNat=m):=hm;clear hm;have e0:(m:Int)<256:=by omega
 have a0:(m:Int)<48∨(48≤(m:Int)∧(57:Int)<m)∨(48≤(m:Int)∧(m:Int)≤57∧(n:Int)≤(m:Int)-48):=by omega
 clear a1 hb;rcases a0 with e1| ⟨e1,e2⟩ | ⟨e1,e2,e3⟩
 all_goals
  go_in
  go_wp2_with (go_at_call 127;refine(bK b s i bad src bi vc vt _ hs hR).mono ?_;rw[HM.out];rintro e w' ⟨rfl,k,rfl⟩);go_ret;exact⟨rfl,(But.drewN _ _ _).trans (But.setB _ _ _ _),(hR.drewN k).set2 true⟩
theorem kL (n:Nat) (hs:s.size≤2000) (hn:n≤4) (hR:RdB w b s i bad src bi vc vt) (hd:aH n (pk s i)=true):
  Calls Tryz.prog 128 #[.pointer (some ⟨b,0,none⟩),.int .i64 n] w fun e w'=>e= .returned (.int .i64 (((pk s i).toNat-65:Nat):Int))∧But (· =b) w w'∧RdB w' b s (i+1) bad src bi vc vt:=by
 have h1:=hR.c1;have f1:=hR.fz 1;obtain⟨d1,d3⟩:=eJ.1 hd;have hi:i<s.size:=gG (by omega);clear hd;obtain⟨m,hm⟩: ∃m:Nat,(pk s i).toNat=m:=⟨_,rfl⟩;rw[hm]at d1 d3⊢;have HM:Hid ((pk s i).toNat=m):=hm;clear hm;have e1:(65:Int)≤m:=by omega
 have e2:(m:Int)≤68:=by omega
 have e3:(m:Int)-65<n:=by omega
 go_in
 go_wp2_with (go_at_call 127;refine(bK b s i bad src bi vc vt _ hs hR).mono ?_;rw[HM.out];rintro e w' ⟨rfl,k,rfl⟩);go_ret;exact⟨jM (by omega),(But.drewN _ _ _).trans (But.setB _ _ _ _),by simpa using(hR.drewN k).set1 (i+1)⟩
theorem jT (n:Nat) (hs:s.size≤2000) (hR:RdB w b s i bad src bi vc vt) (hd:aH n (pk s i)=false):
  Calls Tryz.prog 128 #[.pointer (some ⟨b,0,none⟩),.int .i64 n] w fun e w'=>e= .returned (.int .i64 0)∧But (· =b) w w'∧RdB w' b s i true src bi vc vt:=by
 have h2:=hR.c2;have f2:=hR.fz 2;have a1: ¬(65≤(pk s i).toNat∧(pk s i).toNat<65+n):=fun h=>by rw[eJ.2 h]at hd;cases hd
 clear hd;have hb:=(pk s i).toNat_lt;obtain⟨m,hm⟩: ∃m:Nat,(pk s i).toNat=m:=⟨_,rfl⟩;rw[hm]at a1 hb;have HM:Hid ((pk s i).toNat=m):=hm;clear hm;have e0:(m:Int)<256:=by omega
 have a0:(m:Int)<65∨(65≤(m:Int)∧(68:Int)<m)∨(65≤(m:Int)∧(m:Int)≤68∧(n:Int)≤(m:Int)-65):=by omega
 clear a1 hb;rcases a0 with e1| ⟨e1,e2⟩ | ⟨e1,e2,e3⟩
 all_goals
  go_in
  go_wp2_with (go_at_call 127;refine(bK b s i bad src bi vc vt _ hs hR).mono ?_;rw[HM.out];rintro e w' ⟨rfl,k,rfl⟩);go_ret;exact⟨rfl,(But.drewN _ _ _).trans (But.setB _ _ _ _),(hR.drewN k).set2 true⟩
theorem vU (cc:Int) (c:UInt8) (hcc:cc=c.toNat) (hs:s.size≤2000) (hR:RdB w b s i false src bi vc vt) (hc0:0<c.toNat):
  Calls Tryz.prog 130 #[.pointer (some ⟨b,0,none⟩),.int .u8 cc] w fun e w'=>e= .returned (.tuple #[])∧But (· =b) w w'∧
   ∃j bad,RdB w' b s j bad src bi vc vt∧((bad=false∧lT s c i= .ok j)∨(bad=true∧lT s c i= .error j)):=by
 subst hcc
 by_cases h:pk s i=c
 ·refine(vR b s i false src bi vc vt w c hs hR hc0 h).mono ?_;rintro e w' ⟨rfl,h1,h2⟩;exact⟨rfl,h1,i+1,false,h2,Or.inl ⟨rfl,by simp[lT,h]⟩⟩
 ·refine(xT b s i false src bi vc vt w c hs hR h).mono ?_;rintro e w' ⟨rfl,h1,h2⟩;exact⟨rfl,h1,i,true,h2,Or.inr ⟨rfl,by simp[lT,h]⟩⟩
theorem cX (nn:Int) (n:Nat) (hnn:nn=n) (hs:s.size≤2000) (hR:RdB w b s i false src bi vc vt):
  Calls Tryz.prog 131 #[.pointer (some ⟨b,0,none⟩),.int .i64 nn] w fun e w'=>But (· =b) w w'∧
   ∃v j bad,e= .returned (.int .i64 v)∧RdB w' b s j bad src bi vc vt∧((bad=false∧ ∃d:Nat,v=d∧d<10∧dM s n i= .ok (d,j))∨(bad=true∧dM s n i= .error j)):=by
 subst hnn
 cases h:ej n (pk s i)with
 |true=>
  refine(vS b s i false src bi vc vt w n hs hR h).mono ?_;rintro e w' ⟨rfl,h1,h2⟩;have:=jS.1 h;exact⟨h1,_,i+1,false,rfl,h2,Or.inl ⟨rfl,_,rfl,by omega,by simp[dM,h]⟩⟩
 |false=>
  refine(ub b s i false src bi vc vt w n hs hR h).mono ?_;rintro e w' ⟨rfl,h1,h2⟩;exact⟨h1,_,i,true,rfl,h2,Or.inr ⟨rfl,by simp[dM,h]⟩⟩
theorem fi (nn:Int) (n:Nat) (hnn:nn=n) (hn:n≤4) (hs:s.size≤2000) (hR:RdB w b s i false src bi vc vt):
  Calls Tryz.prog 128 #[.pointer (some ⟨b,0,none⟩),.int .i64 nn] w fun e w'=>But (· =b) w w'∧
   ∃v j bad,e= .returned (.int .i64 v)∧RdB w' b s j bad src bi vc vt∧((bad=false∧ ∃d:Nat,v=d∧d<n∧el s n i= .ok (d,j))∨(bad=true∧el s n i= .error j)):=by
 subst hnn
 cases h:aH n (pk s i)with
 |true=>
  refine(kL b s i false src bi vc vt w n hs hn hR h).mono ?_;rintro e w' ⟨rfl,h1,h2⟩;have:=eJ.1 h;exact⟨h1,_,i+1,false,rfl,h2,Or.inl ⟨rfl,_,rfl,by omega,by simp[el,h]⟩⟩
 |false=>
  refine(jT b s i false src bi vc vt w n hs hR h).mono ?_;rintro e w' ⟨rfl,h1,h2⟩;exact⟨h1,_,i,true,rfl,h2,Or.inr ⟨rfl,by simp[el,h]⟩⟩
end
theorem Bo {a c:UInt8} (h:a≠c):(((a.toNat:Int))!=(c.toNat:Int))=true:=by
 rw[bne_iff_ne];intro h';exact h (UInt8.toNat_inj.1 (by omega))
theorem Bp {a c:UInt8} (h:a=c):(((a.toNat:Int))!=(c.toNat:Int))=false:=by subst h;simp
section
variable (b:Nat) (s:ByteArray) (i:Nat) (src:Bool) (bi:Nat) (vc vt:Value) (w:World)
theorem uc (k n:Nat) (e:UInt8) (hs:s.size≤2000) (hn:n≤4) (hk:k≤4) (he:0<e.toNat) (hR:RdB w b s i false src bi vc vt):
  Calls Tryz.prog 79 #[.pointer (some ⟨b,0,none⟩),.int .i64 k,.int .i64 n,.int .u8 e.toNat] w fun en w'=>But (· =b) w w'∧
   match tys s n e k [] i with
   | .ok (t,j)=>en= .returned (.string ⟨t.toArray⟩)∧RdB w' b s j false src bi vc vt
   | .error j=>(∃t,en= .returned (.string t)∧t.size≤k+1)∧RdB w' b s j true src bi vc vt:=by
 obtain⟨R,a7⟩: ∃R,tys s n e k [] i=R:=⟨_,rfl⟩;rw[a7];have b1:Hid (tys s n e k [] i=R):=a7;clear a7
 go_in
 go_wp2_with (go_at_call 127;refine(bK b s i false src bi vc vt _ hs hR).mono ?_;rintro en w' ⟨rfl,nn,rfl⟩)
 go_loopg [9,10] (k+1) (fun m t c wr=> ∃(tl:List UInt8) (i':Nat) (bad':Bool),t= .string ⟨tl.toArray⟩∧c= .int .u8 (pk s i').toNat∧But (· =b) w wr∧RdB wr b s i' bad' src bi vc vt∧
  ((bad'=false∧ ∃f,m=f+1∧f+tl.length=k∧tys s n e f tl i'=R)∨(bad'=true∧m=0∧R= .error i'∧tl.length≤k+1)))
 case atStart=>exact⟨[],i,false,rfl,rfl,But.drewN _ _ _,hR.drewN _,Or.inl ⟨rfl,k,rfl,by simp,b1.out⟩⟩
 case round=>
  obtain⟨tl,i',bad',rfl,rfl,hB,a1,a4⟩:=hrel;have c1:=a1.c1;have c2:=a1.c2;have f1:=a1.fz 1;have f2:=a1.fz 2;rcases a4 with⟨rfl,f,rfl,b5,b0⟩ | ⟨rfl,rfl,rfl,b3⟩
  ·have HT:Hid (tys s n e f tl i'=R):=b0;clear b0
   by_cases hpe:pk s i'=e
   · --the end
    have hi:i'<s.size:=gG (by rw[hpe];exact he);have b4:=Bp hpe;have a0:R= .ok (tl,i'+1):=by rw[←HT.out];cases f<;>simp[tys,hpe]
    subst a0;clear HT hpe;go_wp2_with fail;go_ret;exact⟨hB.trans (But.setB _ _ _ _),rfl,a1.inc⟩
   ·have b4:=Bo hpe
    cases f with
    |zero=>
     have a0:R= .error i':=by rw[←HT.out];simp[tys,hpe]
     subst a0;have a8:(k:Int)≤(tl.length:Int):=by omega
     clear HT hpe;go_wp2_with (go_at_call 127;refine(bK b s i' true src bi vc vt _ hs (a1.set2 true)).mono ?_;rintro en w' ⟨rfl,nn,rfl⟩)
     go_roundg 0
     case measure=>omega
     case rel=>exact⟨tl,i',true,rfl,rfl,(hB.trans (But.setB _ _ _ _)).trans (But.drewN _ _ _),(a1.set2 true).drewN _,Or.inr ⟨rfl,rfl,rfl,by omega⟩⟩
    |succ f=>
     have a8: ¬(k:Int)≤(tl.length:Int):=by omega
     by_cases h105:(pk s i').toNat=105
     ·have hi:i'<s.size:=gG (by omega);have a0:tys s n e f (tl++ [pk s i']) (i'+1)=R:=by rw[←HT.out];simp[tys,hpe,jt.2 (Or.inl h105)]
      have HS:=a0;have a2:pk s i'=105:=UInt8.toNat_inj.1 (by rw[h105];rfl);have HP:Hid (pk s i'=105):=a2;have a5:Hid (tys s n e f (tl++ [pk s i']) (i'+1)=R):=a0;have h5:(((pk s i').toNat:Int)==105)=true:=by rw[beq_iff_eq];omega
      clear HT hpe a0 HS a2 h105;go_wp2_with (go_at_call 127;refine(bK b s (i'+1) false src bi vc vt _ hs a1.inc).mono ?_;rintro en w' ⟨rfl,nn,rfl⟩)
      go_roundg (f+1)
      case measure=>omega
      case rel=>exact⟨tl++ [pk s i'],i'+1,false,by rw[HP.out];exact congrArg Value.string (ff _ _),rfl,(hB.trans (But.setB _ _ _ _)).trans (But.drewN _ _ _),a1.inc.drewN _,Or.inl ⟨rfl,f,rfl,by simp;omega,a5.out⟩⟩
     ·have h5:(((pk s i').toNat:Int)==105)=false:=by rw[beq_eq_false_iff_ne];omega
      by_cases hl:aH n (pk s i')=true
      ·have a0:tys s n e f (tl++ [pk s i']) (i'+1)=R:=by rw[←HT.out];simp[tys,hpe,jt.2 (Or.inr (eJ.1 hl))]
       have a5:Hid (tys s n e f (tl++ [pk s i']) (i'+1)=R):=a0;have HL:Hid (aH n (pk s i')=true):=hl;clear HT hpe a0 hl h105;have b2:=tD (pk s i');go_wp2_with (first| (go_at_call 128;refine(kL b s i' false src bi vc vt _ n hs hn a1 HL.out).mono ?_;rintro en w1 ⟨rfl,a6,a3⟩) | (go_at_call 127;refine(bK b s (i'+1) false src bi vc vt _ hs (a3.alloc _)).mono ?_;rintro en w' ⟨rfl,nn,rfl⟩))
       go_roundg (f+1)
       case measure=>omega
       case rel=>exact⟨tl++ [pk s i'],i'+1,false,congrArg Value.string (ff _ _),rfl,((hB.trans a6).trans (But.alloc _ _ _)).trans (But.drewN _ _ _),(a3.alloc _).drewN _,Or.inl ⟨rfl,f,rfl,by simp;omega,a5.out⟩⟩
      ·have a9:aH n (pk s i')=false:=by simpa using hl
       have a0:R= .error i':=by
        rw[←HT.out]
        have: ¬cA n (pk s i')=true:=fun h=>by
         rcases jt.1 h with h|h
         ·exact h105 h
         ·exact hl (eJ.2 h)
        simp[tys,hpe,this]
       have HL:Hid (aH n (pk s i')=false):=a9;subst a0;clear HT hpe hl a9 h105;have b2:=tD (pk s i');go_wp2_with (first| (go_at_call 128;refine(jT b s i' false src bi vc vt _ n hs a1 HL.out).mono ?_;rintro en w1 ⟨rfl,a6,a3⟩) | (go_at_call 127;refine(bK b s i' true src bi vc vt _ hs (a3.alloc _)).mono ?_;rintro en w' ⟨rfl,nn,rfl⟩))
       go_roundg 0
       case measure=>omega
       case rel=>exact⟨tl++ [pk s i'],i',true,congrArg Value.string (ff _ _),rfl,((hB.trans a6).trans (But.alloc _ _ _)).trans (But.drewN _ _ _),(a3.alloc _).drewN _,Or.inr ⟨rfl,rfl,rfl,by simp;omega⟩⟩
  ·go_wp2_with fail;go_ret;exact⟨hB,⟨_,rfl,by simpa[ByteArray.size]using b3⟩,a1⟩
theorem iW (kk nn ee:Int) (k n:Nat) (e:UInt8) (hkk:kk=k) (hnn:nn=n) (hee:ee=e.toNat) (hs:s.size≤2000) (hn:n≤4) (hk:k≤4) (he:0<e.toNat) (hR:RdB w b s i false src bi vc vt):
  Calls Tryz.prog 79 #[.pointer (some ⟨b,0,none⟩),.int .i64 kk,.int .i64 nn,.int .u8 ee] w fun en w'=>But (· =b) w w'∧
   ∃t j bad,en= .returned (.string t)∧t.size≤k+1∧RdB w' b s j bad src bi vc vt∧((bad=false∧ ∃tl:List UInt8,t=⟨tl.toArray⟩∧tys s n e k [] i= .ok (tl,j))∨(bad=true∧tys s n e k [] i= .error j)):=by
 subst hkk hnn hee;refine(uc b s i src bi vc vt w k n e hs hn hk he hR).mono ?_;rintro en w' ⟨hB,h⟩;refine⟨hB,?_⟩;rcases ht:tys s n e k [] i with j| ⟨t,j⟩
 ·rw[ht]at h;obtain⟨⟨t,h1,h2⟩,h3⟩:=h;exact⟨t,j,true,h1,h2,h3,Or.inr ⟨rfl,rfl⟩⟩
 ·rw[ht]at h;obtain⟨h1,h2⟩:=h;have:=jJ ht;exact⟨_,j,false,h1,by simpa[ByteArray.size]using Nat.le_succ_of_le this,h2,Or.inl ⟨rfl,t,rfl,rfl⟩⟩
theorem vV (ao:Option Addr) (n cap:Nat) (v1 v2:Value) (hs:s.size≤2000) (hn:n≤4) (hI:ImB w bi (.slice ao n cap) v1 v2) (hR:RdB w b s i false src bi vc vt) (ht:cA n (pk s i)=true):
  Calls Tryz.prog 129 #[.pointer (some ⟨b,0,none⟩)] w fun en w'=>en= .returned (.int .u8 (pk s i).toNat)∧But (· =b) w w'∧RdB w' b s (i+1) false src bi vc vt:=by
 have a2:=hR.c1;have a3:=hR.c4;have a4:=hR.fz 1;have a5:=hI.c0;have h:=jt.1 ht;have hi:i<s.size:=gG (by omega)
 by_cases h105:(pk s i).toNat=105
 ·have h5:(((pk s i).toNat:Int)==105)=true:=by rw[beq_iff_eq];omega
  clear h h105 ht
  go_in
  go_wp2_with (go_at_call 127;refine(bK b s i false src bi vc vt _ hs hR).mono ?_;rintro en w' ⟨rfl,nn,rfl⟩);go_ret;exact⟨rfl,(But.drewN _ _ _).trans (But.setB _ _ _ _),(hR.drewN nn).inc⟩
 ·have h5:(((pk s i).toNat:Int)==105)=false:=by rw[beq_eq_false_iff_ne];omega
  have HL:Hid (aH n (pk s i)=true):=eJ.2 (by omega);clear h h105 ht
  go_in
  go_wp2_with (first| (go_at_call 127;refine(bK b s i false src bi vc vt _ hs hR).mono ?_;rintro en w' ⟨rfl,nn,rfl⟩) | (go_at_call 128;refine(kL b s i false src bi vc vt _ n hs hn (hR.drewN _) HL.out).mono ?_;rintro en w1 ⟨rfl,a0,a1⟩));go_ret;exact⟨rfl,(But.drewN _ _ _).trans a0,a1⟩
theorem tL (ao:Option Addr) (n cap:Nat) (v1 v2:Value) (hs:s.size≤2000) (hI:ImB w bi (.slice ao n cap) v1 v2) (hR:RdB w b s i false src bi vc vt) (ht:cA n (pk s i)=false):
  Calls Tryz.prog 129 #[.pointer (some ⟨b,0,none⟩)] w fun en w'=>(∃c,en= .returned (.int .u8 c))∧But (· =b) w w'∧RdB w' b s i true src bi vc vt:=by
 have a2:=hR.c4;have a3:=hI.c0;have h: ¬((pk s i).toNat=105∨(65≤(pk s i).toNat∧(pk s i).toNat<65+n)):=fun h=>by rw[jt.2 h]at ht;cases ht
 have h5:(((pk s i).toNat:Int)==105)=false:=by rw[beq_eq_false_iff_ne];omega
 have hl:aH n (pk s i)=false:=by
  cases hh:aH n (pk s i)with
  |false=>rfl
  |true=>exact absurd (Or.inr (eJ.1 hh)) h
 have HL:Hid (aH n (pk s i)=false):=hl;clear h hl ht
 go_in
 go_wp2_with (first| (go_at_call 127;refine(bK b s i false src bi vc vt _ hs hR).mono ?_;rintro en w' ⟨rfl,nn,rfl⟩) | (go_at_call 128;refine(jT b s i false src bi vc vt _ n hs (hR.drewN _) HL.out).mono ?_;rintro en w1 ⟨rfl,a0,a1⟩));go_ret;exact⟨⟨_,rfl⟩,(But.drewN _ _ _).trans a0,a1⟩
end
end
section
open Go Go.RowKit Sp
attribute [local go_sem ↓] Go.wp_at_zero Go.wp_at_succ
theorem vW:(Tryz.prog.info? 203).map (fun i=>(i.zero,i.size,i.bytes))=some (some (.agg #[.int .i64 0,.string ⟨#[]⟩]),2,24):=by kernel_rfl
section
variable (b:Nat) (s:ByteArray) (i:Nat) (src:Bool) (bi:Nat) (vc vt:Value) (w:World)
theorem qR (hs:s.size≤2000) (hbi:b≠bi) (hR:RdB w b s i false src bi vc vt) (hI:ImB w bi (.slice none 0 0) (.slice none 0 0) (.slice none 0 0)):
  Calls Tryz.prog 76 #[.pointer (some ⟨b,0,none⟩)] w fun en w'=>en= .returned (.tuple #[])∧But (fun k=>k=b∨k=bi) w w'∧
   match dW s 4 [] i with
   | .ok (cs,j)=>RdB w' b s j false src bi vc vt∧ ∃v,ImB w' bi v (.slice none 0 0) (.slice none 0 0)∧w'.ownsRow w.heap.size 203 2 v cs.length (cN cs)
   | .error j=>RdB w' b s j true src bi vc vt:=by
 obtain⟨R,i3⟩: ∃R,dW s 4 [] i=R:=⟨_,rfl⟩;rw[i3];have m5:Hid (dW s 4 [] i=R):=i3;clear i3;obtain⟨i0,k9,m0,m1,m2⟩:=info_parts vW
 go_in
 go_wp2_with (go_at_call 127;refine(bK b s i false src bi vc vt _ hs hR).mono ?_;rintro en w' ⟨rfl,nn,rfl⟩)
 go_loopg [2] 5 (fun m c wr=> ∃(i':Nat) (bad':Bool),c= .int .u8 (pk s i').toNat∧But (fun k=>k=b∨k=bi) w wr∧RdB wr b s i' bad' src bi vc vt∧
  ((bad'=false∧ ∃f cs v,m=f+1∧f+List.length cs=4∧WfC cs∧dW s f cs i'=R∧ImB wr bi v (.slice none 0 0) (.slice none 0 0)∧wr.ownsRow w.heap.size 203 2 v cs.length (cN cs))∨(bad'=true∧m=0∧R= .error i')))
 case atStart=>exact⟨i,false,rfl,But.drewN _ _ _,hR.drewN _,Or.inl ⟨rfl,4,[],_,rfl,rfl,(fun j c h=>by simp at h),m5.out,hI,cC _ _ _ _⟩⟩
 case round=>
  obtain⟨i',bad',rfl,hB,b3,g5⟩:=hrel;have c1:=b3.c1;have c2:=b3.c2;have c4:=b3.c4;have f1:=b3.fz 1;have f2:=b3.fz 2;rcases g5 with⟨rfl,f,cs,v,rfl,j7,j1,l3,g2,a0⟩ | ⟨rfl,rfl,rfl⟩
  ·have HT:Hid (dW s f cs i'=R):=l3;have n5:f+cs.length≤4:=by omega
   have n6:4≤f+cs.length:=by omega
   have blt:=b3.lt;have bilt:=g2.lt;clear l3 j7;obtain⟨ao,cap,rfl⟩:=au a0;have d0:=g2.c0
   by_cases hpe:(pk s i').toNat=59
   · --the end
    have hi:i'<s.size:=gG (by omega);have n9:(((pk s i').toNat:Int)!=59)=false:=by rw[bne_eq_false_iff_eq];omega
    have e1:R= .ok (cs,i'+1):=by rw[←HT.out];cases f<;>simp[dW,hpe]
    subst e1;clear HT hpe;go_wp2_with fail;go_end0;exact⟨rfl,hB.trans ((But.setB _ _ _ _).mono (fun _ _ h=>Or.inl h)),b3.inc,_,g2.but (But.setB _ _ _ _) (fun h=>hbi h.symm),ar a0 (But.setB _ _ _ _) (fun g hg h=>by have:=ay a0 g hg;have:=hR.lt;omega)⟩
   ·have n9:(((pk s i').toNat:Int)!=59)=true:=by rw[bne_iff_ne];omega
    cases f with
    |zero=>
     have e1:R= .error i':=by rw[←HT.out];simp[dW,hpe]
     subst e1;have i6:(4:Int)≤(cs.length:Int):=by omega
     clear HT hpe;go_wp2_with fail;exact eo Tryz.results76 rfl ⟨rfl,hB.trans ((But.setB _ _ _ _).mono (fun _ _ h=>Or.inl h)),b3.set2 true⟩
    |succ f=>
     have i6: ¬(4:Int)≤(cs.length:Int):=by omega
     by_cases h45:(pk s i').toNat=45
     ·have hi:i'<s.size:=gG (by omega);have h5:(((pk s i').toNat:Int)==45)=true:=by rw[beq_iff_eq];omega
      have j2:Hid ((pk s i').toNat=45):=h45;have f7:Hid (¬(pk s i').toNat=59):=hpe;clear h45 hpe;have g7:iJ s cs.length i'= .ok (-1,i'+1):=by simp[iJ,j2.out]
      have a4:Hid (iJ s cs.length i'= .ok (-1,i'+1)):=g7;clear g7;go_wp2_with fail;refine(iW b s (i'+1) src bi vc vt _ _ _ _ 2 (cs.length+1) 46 rfl (by omega) rfl hs (by omega) (by omega) (by decide) (b3.inc.alloc _)).mono ?_;rintro en w1 ⟨b2,o,j,a2,rfl,o0,b1,a7⟩;have h3:Hid ((a2=false∧ ∃tl:List UInt8,o=⟨tl.toArray⟩∧tys s (cs.length+1) 46 2 [] (i'+1)= .ok (tl,j))∨(a2=true∧tys s (cs.length+1) 46 2 [] (i'+1)= .error j)):=a7;clear a7
      have a5:w1.heap[wr.heap.size]?=some (.cells #[.int .i64 (-1),.string ⟨#[]⟩] 203):=by
       rw[b2.block _ (by simp) (by omega)];exact aw (bf _ _ _) _
      have e8:ImB w1 bi (.slice ao cs.length cap) (.slice none 0 0) (.slice none 0 0):=(g2.but ((But.setB _ b _ _).trans (But.alloc _ _ _)) (fun h=>hbi h.symm)).but b2 (fun h=>hbi h.symm);have f5:=ar (ar a0 ((But.setB _ b _ _).trans (But.alloc _ _ _)) (fun g hg h=>by have:=ay a0 g hg;have:=hR.lt;omega)) b2 (fun g hg h=>by have:=ay a0 g hg;have:=hR.lt;omega);have e3:But (fun k=>k=b∨k=bi) w w1:=hB.trans ((((But.setB _ b _ _).trans (But.alloc _ _ _)).trans b2).mono (fun _ _ h=>Or.inl h));have h1:wr.heap.size<w1.heap.size:=ae a5;have l5:=hB.size;have n4:=hR.lt;have i5:=hI.lt;have k0:=ce0 a5;have k1:=ce1 a5
      have kf:w1.frozen? ⟨wr.heap.size,1,none⟩=false:=frozen_of_row w1 _ 1 _ _ a5;have e0:=e8.c0;have e2:=b1.c2;have e4:=b1.c4;have i9:(⟨#[]⟩:ByteArray).size+o.size≤1000:=by show 0+o.size≤1000;omega
      clear c1 c2 c4 f1 f2 d0;go_wp2_with fail;rw[show(⟨#[]⟩:ByteArray)=⟨(inh cs (-1)).toArray⟩from rfl];obtain⟨pv,f6⟩: ∃pv:Int,pv= -1:=⟨_,rfl⟩;rw[←f6]at a5 a4⊢;clear f6 k0;obtain⟨F,hF⟩: ∃F:ByteArray,(⟨(inh cs pv).toArray⟩:ByteArray)++o=F:=⟨_,rfl⟩;rw[hF];have HF:Hid ((⟨(inh cs pv).toArray⟩:ByteArray)++o=F):=hF;clear hF;have b0:(w1.setCell ⟨wr.heap.size,1,none⟩ (.string F)).heap[wr.heap.size]?=some (.cells #[.int .i64 pv,.string F] 203):=heap_setCell_same w1 _ 1 _ _ _ a5;have f3:RdB (w1.setCell ⟨wr.heap.size,1,none⟩ (.string F)) b s j a2 src bi vc vt:=b1.but (But.setB _ _ _ _) (by omega);have e5:ImB (w1.setCell ⟨wr.heap.size,1,none⟩ (.string F)) bi (.slice ao cs.length cap) (.slice none 0 0) (.slice none 0 0):=e8.but (But.setB _ _ _ _) (by omega)
      have e6:=ar f5 (But.setB w1 wr.heap.size 1 (.string F)) (fun g hg h=>by have:=aU a0 g hg;omega);have f0:But (fun k=>k=b∨k=bi) w (w1.setCell ⟨wr.heap.size,1,none⟩ (.string F)):=⟨e3.os,e3.tape,e3.output,by rw[bf];exact e3.size,fun k hk hf=>((But.setB w1 wr.heap.size 1 (.string F)).block k (Nat.lt_of_lt_of_le hk e3.size) (by omega)).trans (e3.block k hk hf)⟩;have b9:wr.heap.size<(w1.setCell ⟨wr.heap.size,1,none⟩ (.string F)).heap.size:=ae b0;clear k1 kf e0 e2 e4 a5 b1 e8 f5 e3 h1 b2;generalize (w1.setCell ⟨wr.heap.size,1,none⟩ (.string F))=W at*;have k0:=ce0 b0;have k1:=ce1 b0;have e0:=e5.c0
      have e4:=f3.c4;have g0:=e5.fz 0;have bltW:=f3.lt;have biltW:=e5.lt;have ab:(Value.slice ao cs.length cap).ownBlock≠some b:=fun h=>by have:=ay e6 _ h;omega
      have abi:(Value.slice ao cs.length cap).ownBlock≠some bi:=fun h=>by have:=ay e6 _ h;omega
      have agk:(Value.slice ao cs.length cap).ownBlock≠some wr.heap.size:=fun h=>by have:=aU a0 _ h;omega
      refine az (But (fun k=>(Value.slice ao cs.length cap).ownBlock=some k) W) 14 (by kernel_rfl) ?_;have i4:But (fun k=>(Value.slice ao cs.length cap).ownBlock=some k) W W.drew:=But.drew _ _
      iterate 12 (refine aB (v:=?_) rfl (by kernel_rfl) (fun _ _ _ h=>h) rfl i4 ?_ ?_;rotate_left;(focus (intro wS h;have q0:=((h.cell (p:=⟨b,4,none⟩) bltW ab).trans e4);have q1:=((h.cell (p:=⟨bi,0,none⟩) biltW abi).trans e0);have q2:=((h.cell (p:=⟨wr.heap.size,0,none⟩) b9 agk).trans k0);have q3:=((h.cell (p:=⟨wr.heap.size,1,none⟩) b9 agk).trans k1);clear h;go_simp;try rfl));dsimp only[Act.put];try simp only[aR])
      refine ag rfl (by kernel_rfl) ?_;intro KS hKS;go_simp;refine hKS.out _ _ (fun _=>(But.alloc _ _ _).trans (But.drew _ _)) ?_;clear hKS KS;refine ag rfl (by kernel_rfl) ?_;intro KS hKS
      refine step_append_lies _ (by rfl) _ _ _ (by rfl) w.heap.size 203 i0 _ 2 24 Tryz.underlying40 k9 m0 m1 m2 rfl (by omega) _ cs.length (cN cs) (by rfl) ((e6.alloc _).drew)
         ⟨W.heap.size,0,none⟩ 1 1 [.int .i64 pv,.string F] (by rfl) (by rfl) (World.news_of_block (cs:=#[.int .i64 pv,.string F]) (t:=203) (fr:=(0,0)) (heap_alloc_new W _)) (by simp[Value.oneCell'])
         (by omega) (by unfold maxLen;omega) (by omega) (by simp;omega) (W.heap.size+1) (by simp) ?_
      intro gg a1 w2 a3 a6 n2 i7;have a9:But (fun k=>(Value.slice ao cs.length cap).ownBlock=some k) W w2:=((But.alloc _ _ _).trans (But.drew _ _)).trans (aQ a6);refine hKS.out _ _ (fun _=>a9) ?_;clear hKS KS;have y0:=(a9.cell (p:=⟨bi,0,none⟩) biltW abi).trans e0;have y1:=(a9.frozen (p:=⟨bi,0,none⟩) biltW abi).trans g0;refine ag rfl (by kernel_rfl) ?_;intro KS hKS;go_simp;refine hKS.out _ _ nofun ?_;clear hKS KS;refine ag rfl (by kernel_rfl) ?_;intro KS hKS;go_simp;refine hKS.out _ _ nofun ?_;clear hKS KS;refine ag rfl (by kernel_rfl) ?_;intro KS hKS;go_simp;refine hKS.out _ _ nofun ?_;clear hKS KS
      refine aD rfl (by kernel_rfl) ?_;have f4:RdB (w2.setCell ⟨bi,0,none⟩ (.slice (some ⟨gg,0,none⟩) (cs.length+1) a1)) b s j a2 src bi vc vt:=(f3.but a9 ab).but (But.setB _ _ _ _) hbi;have h7:ImB (w2.setCell ⟨bi,0,none⟩ (.slice (some ⟨gg,0,none⟩) (cs.length+1) a1)) bi (.slice (some ⟨gg,0,none⟩) (cs.length+1) a1) (.slice none 0 0) (.slice none 0 0):=(e5.but a9 abi).set0 _;have n8:=ay a3 gg rfl;have h9:=ar a3 (But.setB w2 bi 0 (.slice (some ⟨gg,0,none⟩) (cs.length+1) a1)) (fun g hg h=>by have:=ay a3 g hg;omega)
      have g1:But (fun k=>k=b∨k=bi) w (w2.setCell ⟨bi,0,none⟩ (.slice (some ⟨gg,0,none⟩) (cs.length+1) a1)):=
       (f0.next a9 (fun k hk h=>absurd (ay e6 k h) (by omega))).next (But.setB _ _ _ _) (fun _ _ h=>Or.inr h)
      clear y0 y1 e0 e4 g0 k0 k1 a9 a6;generalize (w2.setCell ⟨bi,0,none⟩ (.slice (some ⟨gg,0,none⟩) (cs.length+1) a1))=W3 at*;go_wp2_with (go_at_call 127;refine(bK b s j a2 src bi vc vt _ hs f4).mono ?_;rintro en w' ⟨rfl,n3,rfl⟩);rcases h3.out with⟨rfl,tl,rfl,ht⟩ | ⟨rfl,ht⟩
      ·go_roundg (f+1)
       case measure=>omega
       case rel=>
        refine⟨j,false,rfl,g1.next (But.drewN (fun _=>False) _ _) (fun _ _ h=>h.elim),f4.drewN _,Or.inl ⟨rfl,f,cs++ [⟨pv,inh cs pv++tl⟩],_,rfl,by simp;omega,kD j1 a4.out ht,?_,h7,?_⟩⟩
        ·rw[←HT.out,dW,if_neg f7.out,a4.out];simp only[ht]
        ·rw[jX,List.length_append];have hF:=HF.out;rw[show(⟨(inh cs pv++tl).toArray⟩:ByteArray)=F from by rw[←hF];exact(cP _ _).symm];exact h9
      ·go_roundg 0
       case measure=>omega
       case rel=>
        refine⟨j,true,rfl,g1.next (But.drewN (fun _=>False) _ _) (fun _ _ h=>h.elim),f4.drewN _,Or.inr ⟨rfl,rfl,?_⟩⟩;rw[←HT.out,dW,if_neg f7.out,a4.out];simp only[ht]
     ·have j2:Hid (¬(pk s i').toNat=45):=h45;have f7:Hid (¬(pk s i').toNat=59):=hpe;have h5:(((pk s i').toNat:Int)==45)=false:=by rw[beq_eq_false_iff_ne];omega
      cases hl:aH cs.length (pk s i')with
      |false=>
       have HL:Hid (aH cs.length (pk s i')=false):=hl;have e1:R= .error i':=by rw[←HT.out,dW,if_neg hpe];simp[iJ,el,h45,hl]
       subst e1;clear h45 hpe hl HT;go_wp2_with fail;refine(jT b s i' false src bi vc vt _ cs.length hs (b3.alloc _) HL.out).mono ?_;rintro en w1 ⟨rfl,b2,b1⟩
       have a5:w1.heap[wr.heap.size]?=some (.cells #[.int .i64 (-1),.string ⟨#[]⟩] 203):=by
        rw[b2.block _ (by simp) (by omega)];exact heap_alloc_new _ _
       have k0:=ce0 a5;have kf:w1.frozen? ⟨wr.heap.size,0,none⟩=false:=frozen_of_row w1 _ 0 _ _ a5;have e2:=b1.c2;have e7:b≠wr.heap.size:=by omega
       clear c1 c2 c4 f1 f2 d0;go_wp2_with fail;have l5:=hB.size;exact eo Tryz.results76 rfl ⟨rfl,((hB.next (But.alloc (fun _=>False) _ _) (fun _ _ h=>h.elim)).next b2 (fun _ _ h=>Or.inl h)).next (But.setB _ _ _ _) (fun k hk h=>by omega),b1.but (But.setB _ _ _ _) e7⟩
      |true=>
       have HL:Hid (aH cs.length (pk s i')=true):=hl;obtain⟨pn,j0⟩: ∃pn:Nat,(pk s i').toNat-65=pn:=⟨_,rfl⟩;have o2:pn<cs.length:=by have:=eJ.1 hl;omega
       obtain⟨pv,f6⟩: ∃pv:Int,pv=(pn:Int):=⟨_,rfl⟩
       have a4:Hid (iJ s cs.length i'= .ok (pv,i'+1)):=by
        show iJ s cs.length i'= .ok (pv,i'+1)
        simp[iJ,el,h45,hl,f6,j0]
       have m4:Hid ((pk s i').toNat-65=pn):=j0;have h4:Hid (pv=(pn:Int)):=f6;have o3:(0:Int)≤pv:=by omega
       have o4:pv<(cs.length:Int):=by omega
       clear h45 hpe hl j0 f6;go_wp2_with fail;refine(kL b s i' false src bi vc vt _ cs.length hs (by omega) (b3.alloc _) HL.out).mono ?_;rw[m4.out,←h4.out];rintro en wB ⟨rfl,h6,i1⟩
       have b4:wB.heap[wr.heap.size]?=some (.cells #[.int .i64 (-1),.string ⟨#[]⟩] 203):=by
        rw[h6.block _ (by simp) (by omega)];exact heap_alloc_new _ _
       have k0:=ce0 b4;have kf:wB.frozen? ⟨wr.heap.size,0,none⟩=false:=frozen_of_row wB _ 0 _ _ b4;have e2:=i1.c2;have e7:b≠wr.heap.size:=by omega
       have g3:bi≠wr.heap.size:=by omega
       clear c1 c2 c4 f1 f2 d0;go_wp2_with fail;refine(iW b s (i'+1) src bi vc vt _ _ _ _ 2 (cs.length+1) 46 rfl (by omega) rfl hs (by omega) (by omega) (by decide) (i1.but (But.setB _ _ _ _) e7)).mono ?_;rintro en w1 ⟨b2,o,j,a2,rfl,o0,b1,a7⟩;have h3:Hid ((a2=false∧ ∃tl:List UInt8,o=⟨tl.toArray⟩∧tys s (cs.length+1) 46 2 [] (i'+1)= .ok (tl,j))∨(a2=true∧tys s (cs.length+1) 46 2 [] (i'+1)= .error j)):=a7;clear a7
       have a5:w1.heap[wr.heap.size]?=some (.cells #[.int .i64 pv,.string ⟨#[]⟩] 203):=by
        rw[b2.block _ (by rw[bf];exact ae b4) (by omega)];exact heap_setCell_same wB _ 0 _ _ _ b4
       have l5:=hB.size;have n4:=hR.lt;have i5:=hI.lt;have h0:But (· =b) wr w1:=((((But.alloc _ wr _).trans h6).next (But.setB wB wr.heap.size 0 _) (fun k hk h=>by omega)).trans b2);have e8:ImB w1 bi (.slice ao cs.length cap) (.slice none 0 0) (.slice none 0 0):=g2.but h0 (fun h=>hbi h.symm);have f5:=ar a0 h0 (fun g hg h=>by have:=ay a0 g hg;omega);have e3:But (fun k=>k=b∨k=bi) w w1:=hB.next h0 (fun _ _ h=>Or.inl h);have h1:wr.heap.size<w1.heap.size:=ae a5;have ha:=List.getElem?_eq_getElem o2;have o1:(cN cs)[pn*2+1]?=some (.string ⟨cs[pn].fields.toArray⟩):=eQ ha;obtain⟨ga,capa,l4,j5,g6,n7⟩:=eG f5 o1
       have n1:ao=some ⟨ga,0,none⟩:=by injection l4
       have h2:Hid (inh cs pv=cs[pn].fields):=by
        show inh cs pv=cs[pn].fields
        rw[h4.out];exact vE ha
       have g4:w1.cell? ⟨ga,pv.toNat*2+1,none⟩=some (.string ⟨cs[pn].fields.toArray⟩):=by rw[h4.out,Int.toNat_natCast];exact j5
       clear j5;subst n1;have k3:ga<wr.heap.size:=aU a0 ga rfl;have m3:=ce0 a5;have o5:=ce1 a5;have kkf:w1.frozen? ⟨wr.heap.size,1,none⟩=false:=frozen_of_row w1 _ 1 _ _ a5;have e0:=e8.c0;have n0:=b1.c2;have e4:=b1.c4;have f8:=b1.lt;have bilt1:=e8.lt;clear k0 kf e2 l4;go_wp2_with fail;have j4:But (fun _=>False) w1 w1.drew:=But.drew _ _;refine az (But (fun _=>False) w1) 13 (by kernel_rfl) ?_
       iterate 13 (refine aB (v:=?_) rfl (by kernel_rfl) (fun _ _ _ h=>h) rfl j4 ?_ ?_;rotate_left;(focus (intro wS h;have q0:=(h.kc e4 f8);have q1:=(h.kc e0 bilt1);have q2:=(h.kc m3 h1);have q3:=(h.kc g4 g6);clear h;go_simp;try rfl));dsimp only[Act.put];try simp only[aR])
       refine ag rfl (by kernel_rfl) ?_;intro KS hKS;go_simp;refine hKS.out _ _ nofun ?_;clear hKS KS;refine aD rfl (by kernel_rfl) ?_;have b5:(w1.setCell ⟨wr.heap.size,1,none⟩ (.string ⟨cs[pn].fields.toArray⟩)).drew.heap[wr.heap.size]?=some (.cells #[.int .i64 pv,.string ⟨cs[pn].fields.toArray⟩] 203):=heap_setCell_same w1 _ 1 _ _ _ a5;have i2:RdB (w1.setCell ⟨wr.heap.size,1,none⟩ (.string ⟨cs[pn].fields.toArray⟩)).drew b s j a2 src bi vc vt:=b1.but (w':=w1.setCell ⟨wr.heap.size,1,none⟩ (.string ⟨cs[pn].fields.toArray⟩)) (But.setB _ _ _ _) e7;have h8:ImB (w1.setCell ⟨wr.heap.size,1,none⟩ (.string ⟨cs[pn].fields.toArray⟩)).drew bi (.slice (some ⟨ga,0,none⟩) cs.length cap) (.slice none 0 0) (.slice none 0 0):=e8.but (w':=w1.setCell ⟨wr.heap.size,1,none⟩ (.string ⟨cs[pn].fields.toArray⟩)) (But.setB _ _ _ _) g3
       have j3:=ar (ar f5 (But.setB w1 wr.heap.size 1 (.string ⟨cs[pn].fields.toArray⟩)) (fun g hg h=>by have:=aU a0 g hg;omega)) (But.drew (fun _=>False) _) (fun _ _ h=>h);have a8:But (fun k=>k=b∨k=bi) w (w1.setCell ⟨wr.heap.size,1,none⟩ (.string ⟨cs[pn].fields.toArray⟩)).drew:=(e3.next (But.setB w1 wr.heap.size 1 _) (fun k hk h=>by omega)).next (But.drew (fun _=>False) _) (fun _ _ h=>h.elim);have j7:cs[pn].fields.length≤8:=by have:=(j1 pn _ ha).2.2.1;omega
       have i9:(⟨cs[pn].fields.toArray⟩:ByteArray).size+o.size≤1000:=by show cs[pn].fields.toArray.size+o.size≤1000;simp;omega
       have l0:cs[pn].fields.length+o.size≤1000:=by omega
       clear m3 o5 kkf e0 n0 e4 g4 a5 b1 e8 f5 e3 b2 h0 h6 i1 b4 h1 f8 bilt1 g6 j4;generalize (w1.setCell ⟨wr.heap.size,1,none⟩ (.string ⟨cs[pn].fields.toArray⟩)).drew=w2' at*;have k0:=ce0 b5;have k1:=ce1 b5;have kf:w2'.frozen? ⟨wr.heap.size,1,none⟩=false:=frozen_of_row w2' _ 1 _ _ b5;have e0:=h8.c0;have e4:=i2.c4;go_wp2_with fail;rw[show(⟨cs[pn].fields.toArray⟩:ByteArray)=⟨(inh cs pv).toArray⟩from by rw[h2.out]];obtain⟨F,hF⟩: ∃F:ByteArray,(⟨(inh cs pv).toArray⟩:ByteArray)++o=F:=⟨_,rfl⟩;rw[hF];have HF:Hid ((⟨(inh cs pv).toArray⟩:ByteArray)++o=F):=hF;clear hF;have b0:(w2'.setCell ⟨wr.heap.size,1,none⟩ (.string F)).heap[wr.heap.size]?=some (.cells #[.int .i64 pv,.string F] 203):=heap_setCell_same w2' _ 1 _ _ _ b5
       have f3:RdB (w2'.setCell ⟨wr.heap.size,1,none⟩ (.string F)) b s j a2 src bi vc vt:=i2.but (But.setB _ _ _ _) (by omega);have e5:ImB (w2'.setCell ⟨wr.heap.size,1,none⟩ (.string F)) bi (.slice (some ⟨ga,0,none⟩) cs.length cap) (.slice none 0 0) (.slice none 0 0):=h8.but (But.setB _ _ _ _) (by omega);have e6:=ar j3 (But.setB w2' wr.heap.size 1 (.string F)) (fun g hg h=>by have:=aU a0 g hg;omega);have f0:But (fun k=>k=b∨k=bi) w (w2'.setCell ⟨wr.heap.size,1,none⟩ (.string F)):=⟨a8.os,a8.tape,a8.output,by rw[bf];exact a8.size,fun k hk hf=>((But.setB w2' wr.heap.size 1 (.string F)).block k (Nat.lt_of_lt_of_le hk a8.size) (by omega)).trans (a8.block k hk hf)⟩
       have b9:wr.heap.size<(w2'.setCell ⟨wr.heap.size,1,none⟩ (.string F)).heap.size:=ae b0;clear k0 k1 kf e0 e4 b5 i2 h8 j3 a8;generalize (w2'.setCell ⟨wr.heap.size,1,none⟩ (.string F))=W at*;have k0:=ce0 b0;have k1:=ce1 b0;have e0:=e5.c0;have e4:=f3.c4;have g0:=e5.fz 0;have bltW:=f3.lt;have biltW:=e5.lt;have ab:(Value.slice (some ⟨ga,0,none⟩) cs.length cap).ownBlock≠some b:=fun h=>by have:=ay e6 _ h;omega
       have abi:(Value.slice (some ⟨ga,0,none⟩) cs.length cap).ownBlock≠some bi:=fun h=>by have:=ay e6 _ h;omega
       have agk:(Value.slice (some ⟨ga,0,none⟩) cs.length cap).ownBlock≠some wr.heap.size:=fun h=>by have:=aU a0 _ h;omega
       refine az (But (fun k=>(Value.slice (some ⟨ga,0,none⟩) cs.length cap).ownBlock=some k) W) 14 (by kernel_rfl) ?_;have i4:But (fun k=>(Value.slice (some ⟨ga,0,none⟩) cs.length cap).ownBlock=some k) W W.drew:=But.drew _ _
       iterate 12 (refine aB (v:=?_) rfl (by kernel_rfl) (fun _ _ _ h=>h) rfl i4 ?_ ?_;rotate_left;(focus (intro wS h;have q0:=((h.cell (p:=⟨b,4,none⟩) bltW ab).trans e4);have q1:=((h.cell (p:=⟨bi,0,none⟩) biltW abi).trans e0);have q2:=((h.cell (p:=⟨wr.heap.size,0,none⟩) b9 agk).trans k0);have q3:=((h.cell (p:=⟨wr.heap.size,1,none⟩) b9 agk).trans k1);clear h;go_simp;try rfl));dsimp only[Act.put];try simp only[aR])
       refine ag rfl (by kernel_rfl) ?_;intro KS hKS;go_simp;refine hKS.out _ _ (fun _=>(But.alloc _ _ _).trans (But.drew _ _)) ?_;clear hKS KS;refine ag rfl (by kernel_rfl) ?_;intro KS hKS
       refine step_append_lies _ (by rfl) _ _ _ (by rfl) w.heap.size 203 i0 _ 2 24 Tryz.underlying40 k9 m0 m1 m2 rfl (by omega) _ cs.length (cN cs) (by rfl) ((e6.alloc _).drew)
          ⟨W.heap.size,0,none⟩ 1 1 [.int .i64 pv,.string F] (by rfl) (by rfl) (World.news_of_block (cs:=#[.int .i64 pv,.string F]) (t:=203) (fr:=(0,0)) (heap_alloc_new W _)) (by simp[Value.oneCell'])
          (by omega) (by unfold maxLen;omega) (by omega) (by simp;omega) (W.heap.size+1) (by simp) ?_
       intro gg a1 w2 a3 a6 n2 i7;have a9:But (fun k=>(Value.slice (some ⟨ga,0,none⟩) cs.length cap).ownBlock=some k) W w2:=((But.alloc _ _ _).trans (But.drew _ _)).trans (aQ a6);refine hKS.out _ _ (fun _=>a9) ?_;clear hKS KS;have y0:=(a9.cell (p:=⟨bi,0,none⟩) biltW abi).trans e0;have y1:=(a9.frozen (p:=⟨bi,0,none⟩) biltW abi).trans g0;refine ag rfl (by kernel_rfl) ?_;intro KS hKS;go_simp;refine hKS.out _ _ nofun ?_;clear hKS KS;refine ag rfl (by kernel_rfl) ?_;intro KS hKS;go_simp;refine hKS.out _ _ nofun ?_;clear hKS KS;refine ag rfl (by kernel_rfl) ?_;intro KS hKS;go_simp;refine hKS.out _ _ nofun ?_
       clear hKS KS;refine aD rfl (by kernel_rfl) ?_;have f4:RdB (w2.setCell ⟨bi,0,none⟩ (.slice (some ⟨gg,0,none⟩) (cs.length+1) a1)) b s j a2 src bi vc vt:=(f3.but a9 ab).but (But.setB _ _ _ _) hbi;have h7:ImB (w2.setCell ⟨bi,0,none⟩ (.slice (some ⟨gg,0,none⟩) (cs.length+1) a1)) bi (.slice (some ⟨gg,0,none⟩) (cs.length+1) a1) (.slice none 0 0) (.slice none 0 0):=(e5.but a9 abi).set0 _;have n8:=ay a3 gg rfl;have h9:=ar a3 (But.setB w2 bi 0 (.slice (some ⟨gg,0,none⟩) (cs.length+1) a1)) (fun g hg h=>by have:=ay a3 g hg;omega)
       have g1:But (fun k=>k=b∨k=bi) w (w2.setCell ⟨bi,0,none⟩ (.slice (some ⟨gg,0,none⟩) (cs.length+1) a1)):=
        (f0.next a9 (fun k hk h=>absurd (ay e6 k h) (by omega))).next (But.setB _ _ _ _) (fun _ _ h=>Or.inr h)
       clear y0 y1 e0 e4 g0 k0 k1 a9 a6;generalize (w2.setCell ⟨bi,0,none⟩ (.slice (some ⟨gg,0,none⟩) (cs.length+1) a1))=W3 at*;go_wp2_with (go_at_call 127;refine(bK b s j a2 src bi vc vt _ hs f4).mono ?_;rintro en w' ⟨rfl,n3,rfl⟩);rcases h3.out with⟨rfl,tl,rfl,ht⟩ | ⟨rfl,ht⟩
       ·go_roundg (f+1)
        case measure=>omega
        case rel=>
         refine⟨j,false,rfl,g1.next (But.drewN (fun _=>False) _ _) (fun _ _ h=>h.elim),f4.drewN _,Or.inl ⟨rfl,f,cs++ [⟨pv,inh cs pv++tl⟩],_,rfl,by simp;omega,kD j1 a4.out ht,?_,h7,?_⟩⟩
         ·rw[←HT.out,dW,if_neg f7.out,a4.out];simp only[ht]
         ·rw[jX,List.length_append];have hF:=HF.out;rw[show(⟨(inh cs pv++tl).toArray⟩:ByteArray)=F from by rw[←hF];exact(cP _ _).symm];exact h9
       ·go_roundg 0
        case measure=>omega
        case rel=>
         refine⟨j,true,rfl,g1.next (But.drewN (fun _=>False) _ _) (fun _ _ h=>h.elim),f4.drewN _,Or.inr ⟨rfl,rfl,?_⟩⟩;rw[←HT.out,dW,if_neg f7.out,a4.out];simp only[ht]
  ·go_wp2_with fail;go_end0;exact⟨rfl,hB,b3⟩
end
end
end Go.Proofs.YtpfkkmacakjmbaaGreatDoor
