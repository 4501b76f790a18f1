import Derived.Test.YtpfkkmacakjmbaaGreatDoorP00
set_option maxRecDepth 100000
set_option maxHeartbeats 6400000
set_option linter.all false
namespace Go.Proofs.YtpfkkmacakjmbaaGreatDoor
open Proofs.Tryz
section
open Go Go.RowKit Sp
section
variable (b:Nat) (s:ByteArray) (i:Nat) (bad src:Bool) (bi:Nat) (vc vt:Value) (w:World)
theorem cA (_hs:s.size<=2000) (hR:RdB w b s i bad src bi vc vt):
  Calls prog 127 #[.pointer (some ⟨b,0,none⟩)] w λe w'=>e= .returned (.int .u8 (pk s i).toNat)/\ ∃n,w'=w.drewN n:=by
 have h0:=hR.c0;have h1:=hR.c1;clear hR
 by_cases hi:(i:Int)<(s.size:Int)
 .have hp:pk s i=s[i]'(by omega):=by unfold pk;rw[dif_pos (by omega)]
  rw[hp];clear hp
  go_in
  go_wp2
  go_quiet (fail)
  go_wp2
  go_quiet (fail)
  go_wp2
  go_ret;exact⟨rfl,_,World.drewN_drewN _ _ _⟩
 .have hp:pk s i=0:=by unfold pk;rw[dif_neg (by omega)]
  rw[hp];clear hp
  go_in
  go_wp2
  go_quiet (fail)
  go_wp2
  go_ret;exact⟨rfl,_,rfl⟩
theorem Ah (c:UInt8) (hs:s.size<=2000) (hR:RdB w b s i bad src bi vc vt) (hc0:0<c.toNat) (hc:pk s i=c):
  Calls prog 130 #[.pointer (some ⟨b,0,none⟩),.int .u8 c.toNat] w λe w'=>e= .returned (.tuple #[])/\But (· =b) w w'/\RdB w' b s (i+1) bad src bi vc vt:=by
 have h1:=hR.c1;have f1:=hR.fz 1;have hi:i<s.size:=iq (hc▸hc0);have HC:Hid (pk s i=c):=hc;clear hc
 go_in
 go_wp2_with (go_at_call 127;refine(cA b s i bad src bi vc vt _ hs hR).mono ?_;rw[HC.out];rintro e w' ⟨rfl,n,rfl⟩);go_end0;exact⟨rfl,(aK _ _ _).trans (au _ _ _ _),by simpa using(hR.drewN n).set1 (i+1)⟩
theorem BU (c:UInt8) (hs:s.size<=2000) (hR:RdB w b s i bad src bi vc vt) (hc:pk s i≠c):
  Calls prog 130 #[.pointer (some ⟨b,0,none⟩),.int .u8 c.toNat] w λe w'=>e= .returned (.tuple #[])/\But (· =b) w w'/\RdB w' b s i true src bi vc vt:=by
 have h2:=hR.c2;have f2:=hR.fz 2
 have a0:(((pk s i).toNat:Int)==(c.toNat:Int))=false:=by
  rw[eA];intro h;exact hc (bS (by omega))
 have a1:(((pk s i).toNat:Int)!=(c.toNat:Int))=true:=by simp[bne,a0]
 have a2: ¬(((pk s i).toNat:Int)=(c.toNat:Int)):=by simpa using a0
 clear hc
 go_in
 go_wp2_with (go_at_call 127;refine(cA b s i bad src bi vc vt _ hs hR).mono ?_;rintro e w' ⟨rfl,n,rfl⟩);go_end0;exact⟨rfl,(aK _ _ _).trans (au _ _ _ _),(hR.drewN n).set2 true⟩
theorem lC {n:Nat} {c:UInt8}:fd n c=true↔48<=c.toNat/\c.toNat<=57/\c.toNat<48+n:=by simp[fd,and_assoc]
theorem fO {n:Nat} {c:UInt8}:aN n c=true↔65<=c.toNat/\c.toNat<65+n:=by simp[aN]
theorem kU {n:Nat} {c:UInt8}:cZ n c=true↔c.toNat=105\/(65<=c.toNat/\c.toNat<65+n):=by simp[cZ,aN]
theorem Ai (n:Nat) (hs:s.size<=2000) (hR:RdB w b s i bad src bi vc vt) (hd:fd n (pk s i)=true):
  Calls prog 131 #[.pointer (some ⟨b,0,none⟩),.int .i64 n] w λe w'=>e= .returned (.int .i64 (((pk s i).toNat-48:Nat):Int))/\But (· =b) w w'/\RdB w' b s (i+1) bad src bi vc vt:=by
 have h1:=hR.c1;have f1:=hR.fz 1;obtain⟨d1,d2,d3⟩:=lC.1 hd;have hi:i<s.size:=iq (by omega);clear hd;obtain⟨m,hm⟩: ∃m:Nat,(pk s i).toNat=m:=⟨_,rfl⟩;rw[hm]at d1 d2 d3⊢;have HM:Hid ((pk s i).toNat=m):=hm;clear hm;have e1:(48:Int)<=m:=by omega
 have e2:(m:Int)<=57:=by omega
 have e3:(m:Int)-48<n:=by omega
 go_in
 go_wp2_with (go_at_call 127;refine(cA b s i bad src bi vc vt _ hs hR).mono ?_;rw[HM.out];rintro e w' ⟨rfl,k,rfl⟩);go_ret;exact⟨mI (by omega),(aK _ _ _).trans (au _ _ _ _),by simpa using(hR.drewN k).set1 (i+1)⟩
theorem yc (n:Nat) (hs:s.size<=2000) (hR:RdB w b s i bad src bi vc vt) (hd:fd n (pk s i)=false):
  Calls prog 131 #[.pointer (some ⟨b,0,none⟩),.int .i64 n] w λe w'=>e= .returned (.int .i64 0)/\But (· =b) w w'/\RdB w' b s i true src bi vc vt:=by
 have h2:=hR.c2;have f2:=hR.fz 2;have a1: ¬(48<=(pk s i).toNat/\(pk s i).toNat<=57/\(pk s i).toNat<48+n):=λh=>by rw[lC.2 h]at hd;cases hd
 clear hd;have hb:=(pk s i).toNat_lt;obtain⟨m,hm⟩: ∃m:Nat,(pk s i).toNat=m:=⟨_,rfl⟩;rw[hm]at a1 hb;have HM:Hid ((pk s i).toNat=m):=hm;clear hm;have e0:(m:Int)<256:=by omega
 have a0:(m:Int)<48\/(48<=(m:Int)/\(57:Int)<m)\/(48<=(m:Int)/\(m:Int)<=57/\(n:Int)<=(m:Int)-48):=by omega
 clear a1 hb;obtain e1| ⟨e1,e2⟩ | ⟨e1,e2,e3⟩:=a0
 all_goals
  go_in
  go_wp2_with (go_at_call 127;refine(cA b s i bad src bi vc vt _ hs hR).mono ?_;rw[HM.out];rintro e w' ⟨rfl,k,rfl⟩);go_ret;exact⟨rfl,(aK _ _ _).trans (au _ _ _ _),(hR.drewN k).set2 true⟩
theorem mP (n:Nat) (hs:s.size<=2000) (hn:n<=4) (hR:RdB w b s i bad src bi vc vt) (hd:aN n (pk s i)=true):
  Calls prog 128 #[.pointer (some ⟨b,0,none⟩),.int .i64 n] w λe w'=>e= .returned (.int .i64 (((pk s i).toNat-65:Nat):Int))/\But (· =b) w w'/\RdB w' b s (i+1) bad src bi vc vt:=by
 have h1:=hR.c1;have f1:=hR.fz 1;obtain⟨d1,d3⟩:=fO.1 hd;have hi:i<s.size:=iq (by omega);clear hd;obtain⟨m,hm⟩: ∃m:Nat,(pk s i).toNat=m:=⟨_,rfl⟩;rw[hm]at d1 d3⊢;have HM:Hid ((pk s i).toNat=m):=hm;clear hm;have e1:(65:Int)<=m:=by omega
 have e2:(m:Int)<=68:=by omega
 have e3:(m:Int)-65<n:=by omega
 go_in
 go_wp2_with (go_at_call 127;refine(cA b s i bad src bi vc vt _ hs hR).mono ?_;rw[HM.out];rintro e w' ⟨rfl,k,rfl⟩);go_ret;exact⟨mI (by omega),(aK _ _ _).trans (au _ _ _ _),by simpa using(hR.drewN k).set1 (i+1)⟩
theorem lD (n:Nat) (hs:s.size<=2000) (hR:RdB w b s i bad src bi vc vt) (hd:aN n (pk s i)=false):
  Calls prog 128 #[.pointer (some ⟨b,0,none⟩),.int .i64 n] w λe w'=>e= .returned (.int .i64 0)/\But (· =b) w w'/\RdB w' b s i true src bi vc vt:=by
 have h2:=hR.c2;have f2:=hR.fz 2;have a1: ¬(65<=(pk s i).toNat/\(pk s i).toNat<65+n):=λh=>by rw[fO.2 h]at hd;cases hd
 clear hd;have hb:=(pk s i).toNat_lt;obtain⟨m,hm⟩: ∃m:Nat,(pk s i).toNat=m:=⟨_,rfl⟩;rw[hm]at a1 hb;have HM:Hid ((pk s i).toNat=m):=hm;clear hm;have e0:(m:Int)<256:=by omega
 have a0:(m:Int)<65\/(65<=(m:Int)/\(68:Int)<m)\/(65<=(m:Int)/\(m:Int)<=68/\(n:Int)<=(m:Int)-65):=by omega
 clear a1 hb;obtain e1| ⟨e1,e2⟩ | ⟨e1,e2,e3⟩:=a0
 all_goals
  go_in
  go_wp2_with (go_at_call 127;refine(cA b s i bad src bi vc vt _ hs hR).mono ?_;rw[HM.out];rintro e w' ⟨rfl,k,rfl⟩);go_ret;exact⟨rfl,(aK _ _ _).trans (au _ _ _ _),(hR.drewN k).set2 true⟩
theorem Aj (cc:Int) (c:UInt8) (hcc:cc=c.toNat) (hs:s.size<=2000) (hR:RdB w b s i false src bi vc vt) (hc0:0<c.toNat):
  Calls prog 130 #[.pointer (some ⟨b,0,none⟩),.int .u8 cc] w λe w'=>e= .returned (.tuple #[])/\But (· =b) w w'/\
   ∃j bad,RdB w' b s j bad src bi vc vt/\((bad=false/\od s c i= .ok j)\/(bad=true/\od s c i= .error j)):=by
 subst hcc
 by_cases h:pk s i=c
 .refine(Ah b s i false src bi vc vt w c hs hR hc0 h).mono ?_;rintro e w' ⟨rfl,h1,h2⟩;exact⟨rfl,h1,i+1,false,h2,Or.inl ⟨rfl,by simp[od,h]⟩⟩
 .refine(BU b s i false src bi vc vt w c hs hR h).mono ?_;rintro e w' ⟨rfl,h1,h2⟩;exact⟨rfl,h1,i,true,h2,Or.inr ⟨rfl,by simp[od,h]⟩⟩
theorem dN (nn:Int) (n:Nat) (hnn:nn=n) (hs:s.size<=2000) (hR:RdB w b s i false src bi vc vt):
  Calls prog 131 #[.pointer (some ⟨b,0,none⟩),.int .i64 nn] w λe w'=>But (· =b) w w'/\
   ∃v j bad,e= .returned (.int .i64 v)/\RdB w' b s j bad src bi vc vt/\((bad=false/\ ∃d:Nat,v=d/\d<10/\ej s n i= .ok (d,j))\/(bad=true/\ej s n i= .error j)):=by
 subst hnn
 cases h:fd n (pk s i)with
 |true=>
  refine(Ai b s i false src bi vc vt w n hs hR h).mono ?_;rintro e w' ⟨rfl,h1,h2⟩;have:=lC.1 h;exact⟨h1,_,i+1,false,rfl,h2,Or.inl ⟨rfl,_,rfl,by omega,by simp[ej,h]⟩⟩
 |false=>
  refine(yc b s i false src bi vc vt w n hs hR h).mono ?_;rintro e w' ⟨rfl,h1,h2⟩;exact⟨h1,_,i,true,rfl,h2,Or.inr ⟨rfl,by simp[ej,h]⟩⟩
theorem gN (nn:Int) (n:Nat) (hnn:nn=n) (hn:n<=4) (hs:s.size<=2000) (hR:RdB w b s i false src bi vc vt):
  Calls prog 128 #[.pointer (some ⟨b,0,none⟩),.int .i64 nn] w λe w'=>But (· =b) w w'/\
   ∃v j bad,e= .returned (.int .i64 v)/\RdB w' b s j bad src bi vc vt/\((bad=false/\ ∃d:Nat,v=d/\d<n/\eX s n i= .ok (d,j))\/(bad=true/\eX s n i= .error j)):=by
 subst hnn
 cases h:aN n (pk s i)with
 |true=>
  refine(mP b s i false src bi vc vt w n hs hn hR h).mono ?_;rintro e w' ⟨rfl,h1,h2⟩;have:=fO.1 h;exact⟨h1,_,i+1,false,rfl,h2,Or.inl ⟨rfl,_,rfl,by omega,by simp[eX,h]⟩⟩
 |false=>
  refine(lD b s i false src bi vc vt w n hs hR h).mono ?_;rintro e w' ⟨rfl,h1,h2⟩;exact⟨h1,_,i,true,rfl,h2,Or.inr ⟨rfl,by simp[eX,h]⟩⟩
end
theorem E4 {a c:UInt8} (h:a≠c):(((a.toNat:Int))!=(c.toNat:Int))=true:=by
 rw[bne_iff_ne];intro h';exact h (bS (by omega))
theorem E5 {a c:UInt8} (h:a=c):(((a.toNat:Int))!=(c.toNat:Int))=false:=by subst h;simp
section
variable (b:Nat) (s:ByteArray) (i:Nat) (src:Bool) (bi:Nat) (vc vt:Value) (w:World)
theorem yd (k n:Nat) (e:UInt8) (hs:s.size<=2000) (hn:n<=4) (hk:k<=4) (he:0<e.toNat) (hR:RdB w b s i false src bi vc vt):
  Calls prog 79 #[.pointer (some ⟨b,0,none⟩),.int .i64 k,.int .i64 n,.int .u8 e.toNat] w λen w'=>But (· =b) w w'/\
   match tys s n e k [] i with
   | .ok (t,j)=>en= .returned (.string ⟨t.toArray⟩)/\RdB w' b s j false src bi vc vt
   | .error j=>(∃t,en= .returned (.string t)/\t.size<=k+1)/\RdB w' b s j true src bi vc vt:=by
 obtain⟨R,a7⟩: ∃R,tys s n e k [] i=R:=⟨_,rfl⟩;rw[a7];have b2:Hid (tys s n e k [] i=R):=a7;clear a7
 go_in
 go_wp2_with (go_at_call 127;refine(cA b s i false src bi vc vt _ hs hR).mono ?_;rintro en w' ⟨rfl,nn,rfl⟩)
 go_loopg [9,10] (k+1) (λm t c wr=> ∃(tl:L_) (i':Nat) (bad':Bool),t= .string ⟨tl.toArray⟩/\c= .int .u8 (pk s i').toNat/\But (· =b) w wr/\RdB wr b s i' bad' src bi vc vt/\
  ((bad'=false/\ ∃f,m=f+1/\f+tl.length=k/\tys s n e f tl i'=R)\/(bad'=true/\m=0/\R= .error i'/\tl.length<=k+1)))
 case atStart=>exact⟨[],i,false,rfl,rfl,aK _ _ _,hR.drewN _,Or.inl ⟨rfl,k,rfl,by simp,b2.out⟩⟩
 case round=>
  obtain⟨tl,i',bad',rfl,rfl,hB,a1,a4⟩:=hrel;have c1:=a1.c1;have c2:=a1.c2;have f1:=a1.fz 1;have f2:=a1.fz 2;obtain⟨rfl,f,rfl,b6,b1⟩ | ⟨rfl,rfl,rfl,b4⟩:=a4
  .have HT:Hid (tys s n e f tl i'=R):=b1;clear b1
   by_cases hpe:pk s i'=e
   · --the end
    have hi:i'<s.size:=iq (by rw[hpe];exact he);have b5:=E5 hpe;have a0:R= .ok (tl,i'+1):=by rw[<-HT.out];cases f<;>simp[tys,hpe]
    subst a0;clear HT hpe;go_wp2_with fail;go_ret;exact⟨hB.trans (au _ _ _ _),rfl,a1.inc⟩
   .have b5:=E4 hpe
    cases f with
    |zero=>
     have a0:R= .error i':=by rw[<-HT.out];simp[tys,hpe]
     subst a0;have a8:(k:Int)<=(tl.length:Int):=by omega
     clear HT hpe;go_wp2_with (go_at_call 127;refine(cA b s i' true src bi vc vt _ hs (a1.set2 true)).mono ?_;rintro en w' ⟨rfl,nn,rfl⟩)
     go_roundg 0
     case measure=>omega
     case rel=>exact⟨tl,i',true,rfl,rfl,(hB.trans (au _ _ _ _)).trans (aK _ _ _),(a1.set2 true).drewN _,Or.inr ⟨rfl,rfl,rfl,by omega⟩⟩
    |succ f=>
     have a8: ¬(k:Int)<=(tl.length:Int):=by omega
     by_cases h105:(pk s i').toNat=105
     .have hi:i'<s.size:=iq (by omega);have a0:tys s n e f (tl++ [pk s i']) (i'+1)=R:=by rw[<-HT.out];simp[tys,hpe,kU.2 (Or.inl h105)]
      have HS:=a0;have a2:pk s i'=105:=bS (by rw[h105];rfl);have HP:Hid (pk s i'=105):=a2;have a5:Hid (tys s n e f (tl++ [pk s i']) (i'+1)=R):=a0;have h5:(((pk s i').toNat:Int)==105)=true:=by rw[beq_iff_eq];omega
      clear HT hpe a0 HS a2 h105;go_wp2_with (go_at_call 127;refine(cA b s (i'+1) false src bi vc vt _ hs a1.inc).mono ?_;rintro en w' ⟨rfl,nn,rfl⟩)
      go_roundg (f+1)
      case measure=>omega
      case rel=>exact⟨tl++ [pk s i'],i'+1,false,by rw[HP.out];exact congrArg Value.string (gJ _ _),rfl,(hB.trans (au _ _ _ _)).trans (aK _ _ _),a1.inc.drewN _,Or.inl ⟨rfl,f,rfl,by simp;omega,a5.out⟩⟩
     .have h5:(((pk s i').toNat:Int)==105)=false:=by rw[eA];omega
      by_cases hl:aN n (pk s i')=true
      .have a0:tys s n e f (tl++ [pk s i']) (i'+1)=R:=by rw[<-HT.out];simp[tys,hpe,kU.2 (Or.inr (fO.1 hl))]
       have a5:Hid (tys s n e f (tl++ [pk s i']) (i'+1)=R):=a0;have HL:Hid (aN n (pk s i')=true):=hl;clear HT hpe a0 hl h105;have b3:=wW (pk s i');go_wp2_with (first| (go_at_call 128;refine(mP b s i' false src bi vc vt _ n hs hn a1 HL.out).mono ?_;rintro en w1 ⟨rfl,a6,a3⟩) | (go_at_call 127;refine(cA b s (i'+1) false src bi vc vt _ hs (a3.alloc _)).mono ?_;rintro en w' ⟨rfl,nn,rfl⟩))
       go_roundg (f+1)
       case measure=>omega
       case rel=>exact⟨tl++ [pk s i'],i'+1,false,congrArg Value.string (gJ _ _),rfl,((hB.trans a6).trans (ag _ _ _)).trans (aK _ _ _),(a3.alloc _).drewN _,Or.inl ⟨rfl,f,rfl,by simp;omega,a5.out⟩⟩
      .have b0:aN n (pk s i')=false:=by simpa using hl
       have a0:R= .error i':=by
        rw[<-HT.out]
        have: ¬cZ n (pk s i')=true:=λh=>by
         obtain h|h:=kU.1 h
         .exact h105 h
         .exact hl (fO.2 h)
        simp[tys,hpe,this]
       have HL:Hid (aN n (pk s i')=false):=b0;subst a0;clear HT hpe hl b0 h105;have b3:=wW (pk s i');go_wp2_with (first| (go_at_call 128;refine(lD b s i' false src bi vc vt _ n hs a1 HL.out).mono ?_;rintro en w1 ⟨rfl,a6,a3⟩) | (go_at_call 127;refine(cA b s i' true src bi vc vt _ hs (a3.alloc _)).mono ?_;rintro en w' ⟨rfl,nn,rfl⟩))
       go_roundg 0
       case measure=>omega
       case rel=>exact⟨tl++ [pk s i'],i',true,congrArg Value.string (gJ _ _),rfl,((hB.trans a6).trans (ag _ _ _)).trans (aK _ _ _),(a3.alloc _).drewN _,Or.inr ⟨rfl,rfl,rfl,by simp;omega⟩⟩
  .go_wp2_with fail;go_ret;exact⟨hB,⟨_,rfl,by simpa[ByteArray.size]using b4⟩,a1⟩
theorem kb (kk nn ee:Int) (k n:Nat) (e:UInt8) (hkk:kk=k) (hnn:nn=n) (hee:ee=e.toNat) (hs:s.size<=2000) (hn:n<=4) (hk:k<=4) (he:0<e.toNat) (hR:RdB w b s i false src bi vc vt):
  Calls prog 79 #[.pointer (some ⟨b,0,none⟩),.int .i64 kk,.int .i64 nn,.int .u8 ee] w λen w'=>But (· =b) w w'/\
   ∃t j bad,en= .returned (.string t)/\t.size<=k+1/\RdB w' b s j bad src bi vc vt/\((bad=false/\ ∃tl:L_,t=⟨tl.toArray⟩/\tys s n e k [] i= .ok (tl,j))\/(bad=true/\tys s n e k [] i= .error j)):=by
 subst hkk hnn hee;refine(yd b s i src bi vc vt w k n e hs hn hk he hR).mono ?_;rintro en w' ⟨hB,h⟩;refine⟨hB,?_⟩;rcases ht:tys s n e k [] i with j| ⟨t,j⟩
 .rw[ht]at h;obtain⟨⟨t,h1,h2⟩,h3⟩:=h;exact⟨t,j,true,h1,h2,h3,Or.inr ⟨rfl,rfl⟩⟩
 .rw[ht]at h;obtain⟨h1,h2⟩:=h;have:=jd ht;exact⟨_,j,false,h1,by simpa[ByteArray.size]using Nat.le_succ_of_le this,h2,Or.inl ⟨rfl,t,rfl,rfl⟩⟩
theorem Ak (ao:Option Addr) (n cap:Nat) (v1 v2:Value) (hs:s.size<=2000) (hn:n<=4) (hI:ImB w bi (.slice ao n cap) v1 v2) (hR:RdB w b s i false src bi vc vt) (ht:cZ n (pk s i)=true):
  Calls prog 129 #[.pointer (some ⟨b,0,none⟩)] w λen w'=>en= .returned (.int .u8 (pk s i).toNat)/\But (· =b) w w'/\RdB w' b s (i+1) false src bi vc vt:=by
 have a2:=hR.c1;have a3:=hR.c4;have a4:=hR.fz 1;have a5:=hI.c0;have h:=kU.1 ht;have hi:i<s.size:=iq (by omega)
 by_cases h105:(pk s i).toNat=105
 .have h5:(((pk s i).toNat:Int)==105)=true:=by rw[beq_iff_eq];omega
  clear h h105 ht
  go_in
  go_wp2_with (go_at_call 127;refine(cA b s i false src bi vc vt _ hs hR).mono ?_;rintro en w' ⟨rfl,nn,rfl⟩);go_ret;exact⟨rfl,(aK _ _ _).trans (au _ _ _ _),(hR.drewN nn).inc⟩
 .have h5:(((pk s i).toNat:Int)==105)=false:=by rw[eA];omega
  have HL:Hid (aN n (pk s i)=true):=fO.2 (by omega);clear h h105 ht
  go_in
  go_wp2_with (first| (go_at_call 127;refine(cA b s i false src bi vc vt _ hs hR).mono ?_;rintro en w' ⟨rfl,nn,rfl⟩) | (go_at_call 128;refine(mP b s i false src bi vc vt _ n hs hn (hR.drewN _) HL.out).mono ?_;rintro en w1 ⟨rfl,a0,a1⟩));go_ret;exact⟨rfl,(aK _ _ _).trans a0,a1⟩
theorem xh (ao:Option Addr) (n cap:Nat) (v1 v2:Value) (hs:s.size<=2000) (hI:ImB w bi (.slice ao n cap) v1 v2) (hR:RdB w b s i false src bi vc vt) (ht:cZ n (pk s i)=false):
  Calls prog 129 #[.pointer (some ⟨b,0,none⟩)] w λen w'=>(∃c,en= .returned (.int .u8 c))/\But (· =b) w w'/\RdB w' b s i true src bi vc vt:=by
 have a2:=hR.c4;have a3:=hI.c0;have h: ¬((pk s i).toNat=105\/(65<=(pk s i).toNat/\(pk s i).toNat<65+n)):=λh=>by rw[kU.2 h]at ht;cases ht
 have h5:(((pk s i).toNat:Int)==105)=false:=by rw[eA];omega
 have hl:aN n (pk s i)=false:=by
  cases hh:aN n (pk s i)with
  |false=>rfl
  |true=>exact absurd (Or.inr (fO.1 hh)) h
 have HL:Hid (aN n (pk s i)=false):=hl;clear h hl ht
 go_in
 go_wp2_with (first| (go_at_call 127;refine(cA b s i false src bi vc vt _ hs hR).mono ?_;rintro en w' ⟨rfl,nn,rfl⟩) | (go_at_call 128;refine(lD b s i false src bi vc vt _ n hs (hR.drewN _) HL.out).mono ?_;rintro en w1 ⟨rfl,a0,a1⟩));go_ret;exact⟨⟨_,rfl⟩,(aK _ _ _).trans a0,a1⟩
end
end
section
open Go Go.RowKit Sp
attribute [local go_sem ↓] dG dH
theorem Al:(prog.info? 203).map (λi=>(i.zero,i.size,i.bytes))=some (some (.agg #[.int .i64 0,.string ⟨#[]⟩]),2,24):=by kernel_rfl
section
variable (b:Nat) (s:ByteArray) (i:Nat) (src:Bool) (bi:Nat) (vc vt:Value) (w:World)
theorem tQ (hs:s.size<=2000) (hbi:b≠bi) (hR:RdB w b s i false src bi vc vt) (hI:ImB w bi S_ S_ S_):
  Calls prog 76 #[.pointer (some ⟨b,0,none⟩)] w λen w'=>en= .returned (.tuple #[])/\But (λk=>k=b\/k=bi) w w'/\
   match ep s 4 [] i with
   | .ok (cs,j)=>RdB w' b s j false src bi vc vt/\ ∃v,ImB w' bi v S_ S_/\w'.ownsRow w.heap.size 203 2 v cs.length (dA cs)
   | .error j=>RdB w' b s j true src bi vc vt:=by
 obtain⟨R,h8⟩: ∃R,ep s 4 [] i=R:=⟨_,rfl⟩;rw[h8];have m1:Hid (ep s 4 [] i=R):=h8;clear h8;obtain⟨i0,j5,l3,l4,l5⟩:=info_parts Al
 go_in
 go_wp2_with (go_at_call 127;refine(cA b s i false src bi vc vt _ hs hR).mono ?_;rintro en w' ⟨rfl,nn,rfl⟩)
 go_loopg [2] 5 (λm c wr=> ∃(i':Nat) (bad':Bool),c= .int .u8 (pk s i').toNat/\But (λk=>k=b\/k=bi) w wr/\RdB wr b s i' bad' src bi vc vt/\
  ((bad'=false/\ ∃f cs v,m=f+1/\f+List.length cs=4/\WfC cs/\ep s f cs i'=R/\ImB wr bi v S_ S_/\wr.ownsRow w.heap.size 203 2 v cs.length (dA cs))\/(bad'=true/\m=0/\R= .error i')))
 case atStart=>exact⟨i,false,rfl,aK _ _ _,hR.drewN _,Or.inl ⟨rfl,4,[],_,rfl,rfl,(λj c h=>by simp at h),m1.out,hI,df _ _ _ _⟩⟩
 case round=>
  obtain⟨i',bad',rfl,hB,b4,g1⟩:=hrel;have c1:=b4.c1;have c2:=b4.c2;have c4:=b4.c4;have f1:=b4.fz 1;have f2:=b4.fz 2;obtain⟨rfl,f,cs,v,rfl,j3,i6,k3,f6,a0⟩ | ⟨rfl,rfl,rfl⟩:=g1
  .have HT:Hid (ep s f cs i'=R):=k3;have n0:f+cs.length<=4:=by omega
   have n1:4<=f+cs.length:=by omega
   have blt:=b4.lt;have bilt:=f6.lt;clear k3 j3;obtain⟨ao,cap,rfl⟩:=aw a0;have d0:=f6.c0
   by_cases hpe:(pk s i').toNat=59
   · --the end
    have hi:i'<s.size:=iq (by omega);have n5:(((pk s i').toNat:Int)!=59)=false:=by rw[bne_eq_false_iff_eq];omega
    have c7:R= .ok (cs,i'+1):=by rw[<-HT.out];cases f<;>simp[ep,hpe]
    subst c7;clear HT hpe;go_wp2_with fail;go_end0;exact⟨rfl,hB.trans ((au _ _ _ _).mono (λ_ _ h=>Or.inl h)),b4.inc,_,f6.but (au _ _ _ _) (λh=>hbi h.symm),aj a0 (au _ _ _ _) (λg hg h=>by have:=ay a0 g hg;have:=hR.lt;omega)⟩
   .have n5:(((pk s i').toNat:Int)!=59)=true:=by rw[bne_iff_ne];omega
    cases f with
    |zero=>
     have c7:R= .error i':=by rw[<-HT.out];simp[ep,hpe]
     subst c7;have i2:(4:Int)<=(cs.length:Int):=by omega
     clear HT hpe;go_wp2_with fail;exact gK results76 rfl ⟨rfl,hB.trans ((au _ _ _ _).mono (λ_ _ h=>Or.inl h)),b4.set2 true⟩
    |succ f=>
     have i2: ¬(4:Int)<=(cs.length:Int):=by omega
     by_cases h45:(pk s i').toNat=45
     .have hi:i'<s.size:=iq (by omega);have h5:(((pk s i').toNat:Int)==45)=true:=by rw[beq_iff_eq];omega
      have i7:Hid ((pk s i').toNat=45):=h45;have f3:Hid (¬(pk s i').toNat=59):=hpe;clear h45 hpe;have g3:jU s cs.length i'= .ok (-1,i'+1):=by simp[jU,i7.out]
      have a4:Hid (jU s cs.length i'= .ok (-1,i'+1)):=g3;clear g3;go_wp2_with fail;refine(kb b s (i'+1) src bi vc vt _ _ _ _ 2 (cs.length+1) 46 rfl (by omega) rfl hs (by omega) (by omega) (by decide) (b4.inc.alloc _)).mono ?_;rintro en w1 ⟨b3,o,j,a2,rfl,n6,b2,a7⟩;have g7:Hid ((a2=false/\ ∃tl:L_,o=⟨tl.toArray⟩/\tys s (cs.length+1) 46 2 [] (i'+1)= .ok (tl,j))\/(a2=true/\tys s (cs.length+1) 46 2 [] (i'+1)= .error j)):=a7;clear a7
      have a5:w1.heap[wr.heap.size]?=some (.cells #[.int .i64 (-1),.string ⟨#[]⟩] 203):=by
       rw[b3.block _ (by simp) (by omega)];exact aB (bI _ _ _) _
      have e5:ImB w1 bi (.slice ao cs.length cap) S_ S_:=(f6.but ((au _ b _ _).trans (ag _ _ _)) (λh=>hbi h.symm)).but b3 (λh=>hbi h.symm);have e9:=aj (aj a0 ((au _ b _ _).trans (ag _ _ _)) (λg hg h=>by have:=ay a0 g hg;have:=hR.lt;omega)) b3 (λg hg h=>by have:=ay a0 g hg;have:=hR.lt;omega);have c9:But (λk=>k=b\/k=bi) w w1:=hB.trans ((((au _ b _ _).trans (ag _ _ _)).trans b3).mono (λ_ _ h=>Or.inl h));have g5:wr.heap.size<w1.heap.size:=ae a5;have l0:=hB.size;have m5:=hR.lt;have i1:=hI.lt;have k0:=ce0 a5;have k1:=ce1 a5;have kf:w1.frozen? ⟨wr.heap.size,1,none⟩=false:=b7 w1 _ 1 _ _ a5
      have e0:=e5.c0;have e2:=b2.c2;have e4:=b2.c4;have i4:(⟨#[]⟩:ByteArray).size+o.size<=1000:=by show 0+o.size<=1000;omega
      clear c1 c2 c4 f1 f2 d0;go_wp2_with fail;rw[show(⟨#[]⟩:ByteArray)=⟨(inh cs (-1)).toArray⟩from rfl];obtain⟨pv,f0⟩: ∃pv:Int,pv= -1:=⟨_,rfl⟩;rw[<-f0]at a5 a4⊢;clear f0 k0;obtain⟨F,hF⟩: ∃F:ByteArray,(⟨(inh cs pv).toArray⟩:ByteArray)++o=F:=⟨_,rfl⟩;rw[hF];have HF:Hid ((⟨(inh cs pv).toArray⟩:ByteArray)++o=F):=hF;clear hF;have b1:(w1.setCell ⟨wr.heap.size,1,none⟩ (.string F)).heap[wr.heap.size]?=some (.cells #[.int .i64 pv,.string F] 203):=bG w1 _ 1 _ _ _ a5;have e7:RdB (w1.setCell ⟨wr.heap.size,1,none⟩ (.string F)) b s j a2 src bi vc vt:=b2.but (au _ _ _ _) (by omega);have d6:ImB (w1.setCell ⟨wr.heap.size,1,none⟩ (.string F)) bi (.slice ao cs.length cap) S_ S_:=e5.but (au _ _ _ _) (by omega)
      have e1:=aj e9 (au w1 wr.heap.size 1 (.string F)) (λg hg h=>by have:=aW a0 g hg;omega);have e6:But (λk=>k=b\/k=bi) w (w1.setCell ⟨wr.heap.size,1,none⟩ (.string F)):=⟨c9.os,c9.tape,c9.output,by rw[bI];exact c9.size,λk hk hf=>((au w1 wr.heap.size 1 (.string F)).block k (bq hk c9.size) (by omega)).trans (c9.block k hk hf)⟩;have b9:wr.heap.size<(w1.setCell ⟨wr.heap.size,1,none⟩ (.string F)).heap.size:=ae b1;clear k1 kf e0 e2 e4 a5 b2 e5 e9 c9 g5 b3;generalize (w1.setCell ⟨wr.heap.size,1,none⟩ (.string F))=W at*;have k0:=ce0 b1;have k1:=ce1 b1;have e0:=d6.c0;have e4:=e7.c4;have g0:=d6.fz 0
      have bltW:=e7.lt;have biltW:=d6.lt;have ab:(Value.slice ao cs.length cap).ownBlock≠some b:=λh=>by have:=ay e1 _ h;omega
      have abi:(Value.slice ao cs.length cap).ownBlock≠some bi:=λh=>by have:=ay e1 _ h;omega
      have agk:(Value.slice ao cs.length cap).ownBlock≠some wr.heap.size:=λh=>by have:=aW a0 _ h;omega
      refine aI (But (λk=>(Value.slice ao cs.length cap).ownBlock=some k) W) 14 ?_;have h9:But (λk=>(Value.slice ao cs.length cap).ownBlock=some k) W W.drew:=aD _ _
      iterate 12 (refine aQ (v:=?_) rfl h9 ?_ ?_;rotate_left;(focus (intro wS h;have q0:=((h.cell (p:=⟨b,4,none⟩) bltW ab).trans e4);have q1:=((h.cell (p:=⟨bi,0,none⟩) biltW abi).trans e0);have q2:=((h.cell (p:=⟨wr.heap.size,0,none⟩) b9 agk).trans k0);have q3:=((h.cell (p:=⟨wr.heap.size,1,none⟩) b9 agk).trans k1);clear h;go_simp;try rfl));dsimp only[Act.put];try simp only[cH])
      refine az rfl ?_;intro KS hKS;go_simp;refine hKS.out _ _ (λ_=>(ag _ _ _).trans (aD _ _)) ?_;clear hKS KS;refine az rfl ?_;intro KS hKS
      refine step_append_lies _ (by rfl) _ _ _ (by rfl) w.heap.size 203 i0 _ 2 24 Tryz.underlying40 j5 l3 l4 l5 rfl (by omega) _ cs.length (dA cs) (by rfl) ((e1.alloc _).drew)
         ⟨W.heap.size,0,none⟩ 1 1 [.int .i64 pv,.string F] (by rfl) (by rfl) (fX (cs:=#[.int .i64 pv,.string F]) (t:=203) (fr:=(0,0)) (aO W _)) (by simp[Value.oneCell'])
         (by omega) (by unfold maxLen;omega) (by omega) (by simp;omega) (W.heap.size+1) (by simp) ?_
      intro gg a1 w2 a3 a6 m4 i3;have b0:But (λk=>(Value.slice ao cs.length cap).ownBlock=some k) W w2:=((ag _ _ _).trans (aD _ _)).trans (bc a6);refine hKS.out _ _ (λ_=>b0) ?_;clear hKS KS;have y0:=(b0.cell (p:=⟨bi,0,none⟩) biltW abi).trans e0;have y1:=(b0.frozen (p:=⟨bi,0,none⟩) biltW abi).trans g0;refine az rfl ?_;intro KS hKS;go_simp;refine hKS.out _ _ nofun ?_;clear hKS KS;refine az rfl ?_;intro KS hKS;go_simp;refine hKS.out _ _ nofun ?_;clear hKS KS;refine az rfl ?_;intro KS hKS;go_simp;refine hKS.out _ _ nofun ?_;clear hKS KS;refine aR rfl ?_;have e8:RdB (w2.setCell ⟨bi,0,none⟩ (.slice (some ⟨gg,0,none⟩) (cs.length+1) a1)) b s j a2 src bi vc vt:=(e7.but b0 ab).but (au _ _ _ _) hbi
      have h2:ImB (w2.setCell ⟨bi,0,none⟩ (.slice (some ⟨gg,0,none⟩) (cs.length+1) a1)) bi (.slice (some ⟨gg,0,none⟩) (cs.length+1) a1) S_ S_:=(d6.but b0 abi).set0 _;have n4:=ay a3 gg rfl;have h4:=aj a3 (au w2 bi 0 (.slice (some ⟨gg,0,none⟩) (cs.length+1) a1)) (λg hg h=>by have:=ay a3 g hg;omega)
      have f5:But (λk=>k=b\/k=bi) w (w2.setCell ⟨bi,0,none⟩ (.slice (some ⟨gg,0,none⟩) (cs.length+1) a1)):=
       (e6.next b0 (λk hk h=>absurd (ay e1 k h) (by omega))).next (au _ _ _ _) (λ_ _ h=>Or.inr h)
      clear y0 y1 e0 e4 g0 k0 k1 b0 a6;generalize (w2.setCell ⟨bi,0,none⟩ (.slice (some ⟨gg,0,none⟩) (cs.length+1) a1))=W3 at*;go_wp2_with (go_at_call 127;refine(cA b s j a2 src bi vc vt _ hs e8).mono ?_;rintro en w' ⟨rfl,n3,rfl⟩);obtain⟨rfl,tl,rfl,ht⟩ | ⟨rfl,ht⟩:=g7.out
      .go_roundg (f+1)
       case measure=>omega
       case rel=>
        refine⟨j,false,rfl,f5.next (aK (λ_=>False) _ _) (λ_ _ h=>h.elim),e8.drewN _,Or.inl ⟨rfl,f,cs++ [⟨pv,inh cs pv++tl⟩],_,rfl,by simp;omega,mB i6 a4.out ht,?_,h2,?_⟩⟩
        .rw[<-HT.out,ep,if_neg f3.out,a4.out];simp only[ht]
        .rw[lO,aZ];have hF:=HF.out;rw[show(⟨(inh cs pv++tl).toArray⟩:ByteArray)=F from by rw[<-hF];exact(fW _ _).symm];exact h4
      .go_roundg 0
       case measure=>omega
       case rel=>
        refine⟨j,true,rfl,f5.next (aK (λ_=>False) _ _) (λ_ _ h=>h.elim),e8.drewN _,Or.inr ⟨rfl,rfl,?_⟩⟩;rw[<-HT.out,ep,if_neg f3.out,a4.out];simp only[ht]
     .have i7:Hid (¬(pk s i').toNat=45):=h45;have f3:Hid (¬(pk s i').toNat=59):=hpe;have h5:(((pk s i').toNat:Int)==45)=false:=by rw[eA];omega
      cases hl:aN cs.length (pk s i')with
      |false=>
       have HL:Hid (aN cs.length (pk s i')=false):=hl;have c7:R= .error i':=by rw[<-HT.out,ep,if_neg hpe];simp[jU,eX,h45,hl]
       subst c7;clear h45 hpe hl HT;go_wp2_with fail;refine(lD b s i' false src bi vc vt _ cs.length hs (b4.alloc _) HL.out).mono ?_;rintro en w1 ⟨rfl,b3,b2⟩
       have a5:w1.heap[wr.heap.size]?=some (.cells #[.int .i64 (-1),.string ⟨#[]⟩] 203):=by
        rw[b3.block _ (by simp) (by omega)];exact aO _ _
       have k0:=ce0 a5;have kf:w1.frozen? ⟨wr.heap.size,0,none⟩=false:=b7 w1 _ 0 _ _ a5;have e2:=b2.c2;have e3:b≠wr.heap.size:=by omega
       clear c1 c2 c4 f1 f2 d0;go_wp2_with fail;have l0:=hB.size;exact gK results76 rfl ⟨rfl,((hB.next (ag (λ_=>False) _ _) (λ_ _ h=>h.elim)).next b3 (λ_ _ h=>Or.inl h)).next (au _ _ _ _) (λk hk h=>by omega),b2.but (au _ _ _ _) e3⟩
      |true=>
       have HL:Hid (aN cs.length (pk s i')=true):=hl;obtain⟨pn,i5⟩: ∃pn:Nat,(pk s i').toNat-65=pn:=⟨_,rfl⟩;have n8:pn<cs.length:=by have:=fO.1 hl;omega
       obtain⟨pv,f0⟩: ∃pv:Int,pv=(pn:Int):=⟨_,rfl⟩
       have a4:Hid (jU s cs.length i'= .ok (pv,i'+1)):=by
        show jU s cs.length i'= .ok (pv,i'+1)
        simp[jU,eX,h45,hl,f0,i5]
       have m0:Hid ((pk s i').toNat-65=pn):=i5;have h0:Hid (pv=(pn:Int)):=f0;have n9:(0:Int)<=pv:=by omega
       have o0:pv<(cs.length:Int):=by omega
       clear h45 hpe hl i5 f0;go_wp2_with fail;refine(mP b s i' false src bi vc vt _ cs.length hs (by omega) (b4.alloc _) HL.out).mono ?_;rw[m0.out,<-h0.out];rintro en wB ⟨rfl,h1,h6⟩
       have b5:wB.heap[wr.heap.size]?=some (.cells #[.int .i64 (-1),.string ⟨#[]⟩] 203):=by
        rw[h1.block _ (by simp) (by omega)];exact aO _ _
       have k0:=ce0 b5;have kf:wB.frozen? ⟨wr.heap.size,0,none⟩=false:=b7 wB _ 0 _ _ b5;have e2:=h6.c2;have e3:b≠wr.heap.size:=by omega
       have f7:bi≠wr.heap.size:=by omega
       clear c1 c2 c4 f1 f2 d0;go_wp2_with fail;refine(kb b s (i'+1) src bi vc vt _ _ _ _ 2 (cs.length+1) 46 rfl (by omega) rfl hs (by omega) (by omega) (by decide) (h6.but (au _ _ _ _) e3)).mono ?_;rintro en w1 ⟨b3,o,j,a2,rfl,n6,b2,a7⟩;have g7:Hid ((a2=false/\ ∃tl:L_,o=⟨tl.toArray⟩/\tys s (cs.length+1) 46 2 [] (i'+1)= .ok (tl,j))\/(a2=true/\tys s (cs.length+1) 46 2 [] (i'+1)= .error j)):=a7;clear a7
       have a5:w1.heap[wr.heap.size]?=some (.cells #[.int .i64 pv,.string ⟨#[]⟩] 203):=by
        rw[b3.block _ (by rw[bI];exact ae b5) (by omega)];exact bG wB _ 0 _ _ _ b5
       have l0:=hB.size;have m5:=hR.lt;have i1:=hI.lt;have g4:But (· =b) wr w1:=((((ag _ wr _).trans h1).next (au wB wr.heap.size 0 _) (λk hk h=>by omega)).trans b3);have e5:ImB w1 bi (.slice ao cs.length cap) S_ S_:=f6.but g4 (λh=>hbi h.symm);have e9:=aj a0 g4 (λg hg h=>by have:=ay a0 g hg;omega);have c9:But (λk=>k=b\/k=bi) w w1:=hB.next g4 (λ_ _ h=>Or.inl h);have g5:wr.heap.size<w1.heap.size:=ae a5;have ha:=aH n8;have n7:(dA cs)[pn*2+1]?=some (.string ⟨cs[pn].fields.toArray⟩):=fV ha;obtain⟨ga,capa,k9,j2,g2,n2⟩:=iD e9 n7;have m3:ao=some ⟨ga,0,none⟩:=by injection k9
       have g6:Hid (inh cs pv=cs[pn].fields):=by
        show inh cs pv=cs[pn].fields
        rw[h0.out];exact zZ ha
       have f8:w1.cell? ⟨ga,pv.toNat*2+1,none⟩=some (.string ⟨cs[pn].fields.toArray⟩):=by rw[h0.out,Int.toNat_natCast];exact j2
       clear j2;subst m3;have j4:ga<wr.heap.size:=aW a0 ga rfl;have l6:=ce0 a5;have o1:=ce1 a5;have kkf:w1.frozen? ⟨wr.heap.size,1,none⟩=false:=b7 w1 _ 1 _ _ a5;have e0:=e5.c0;have m2:=b2.c2;have e4:=b2.c4;have f4:=b2.lt;have bilt1:=e5.lt;clear k0 kf e2 k9;go_wp2_with fail;have j1:B_ w1 w1.drew:=aD _ _;refine aI (B_ w1) 13 ?_
       iterate 13 (refine aQ (v:=?_) rfl j1 ?_ ?_;rotate_left;(focus (intro wS h;have q0:=(h.kc e4 f4);have q1:=(h.kc e0 bilt1);have q2:=(h.kc l6 g5);have q3:=(h.kc f8 g2);clear h;go_simp;try rfl));dsimp only[Act.put];try simp only[cH])
       refine az rfl ?_;intro KS hKS;go_simp;refine hKS.out _ _ nofun ?_;clear hKS KS;refine aR rfl ?_;have b6:(w1.setCell ⟨wr.heap.size,1,none⟩ (.string ⟨cs[pn].fields.toArray⟩)).drew.heap[wr.heap.size]?=some (.cells #[.int .i64 pv,.string ⟨cs[pn].fields.toArray⟩] 203):=bG w1 _ 1 _ _ _ a5;have h7:RdB (w1.setCell ⟨wr.heap.size,1,none⟩ (.string ⟨cs[pn].fields.toArray⟩)).drew b s j a2 src bi vc vt:=b2.but (w':=w1.setCell ⟨wr.heap.size,1,none⟩ (.string ⟨cs[pn].fields.toArray⟩)) (au _ _ _ _) e3;have h3:ImB (w1.setCell ⟨wr.heap.size,1,none⟩ (.string ⟨cs[pn].fields.toArray⟩)).drew bi (.slice (some ⟨ga,0,none⟩) cs.length cap) S_ S_:=e5.but (w':=w1.setCell ⟨wr.heap.size,1,none⟩ (.string ⟨cs[pn].fields.toArray⟩)) (au _ _ _ _) f7
       have j0:=aj (aj e9 (au w1 wr.heap.size 1 (.string ⟨cs[pn].fields.toArray⟩)) (λg hg h=>by have:=aW a0 g hg;omega)) (aD (λ_=>False) _) (λ_ _ h=>h);have a8:But (λk=>k=b\/k=bi) w (w1.setCell ⟨wr.heap.size,1,none⟩ (.string ⟨cs[pn].fields.toArray⟩)).drew:=(c9.next (au w1 wr.heap.size 1 _) (λk hk h=>by omega)).next (aD (λ_=>False) _) (λ_ _ h=>h.elim);have j3:cs[pn].fields.length<=8:=by have:=(i6 pn _ ha).2.2.1;omega
       have i4:(⟨cs[pn].fields.toArray⟩:ByteArray).size+o.size<=1000:=by show cs[pn].fields.toArray.size+o.size<=1000;simp;omega
       have j7:cs[pn].fields.length+o.size<=1000:=by omega
       clear l6 o1 kkf e0 m2 e4 f8 a5 b2 e5 e9 c9 b3 g4 h1 h6 b5 g5 f4 bilt1 g2 j1;generalize (w1.setCell ⟨wr.heap.size,1,none⟩ (.string ⟨cs[pn].fields.toArray⟩)).drew=w2' at*;have k0:=ce0 b6;have k1:=ce1 b6;have kf:w2'.frozen? ⟨wr.heap.size,1,none⟩=false:=b7 w2' _ 1 _ _ b6;have e0:=h3.c0;have e4:=h7.c4;go_wp2_with fail;rw[show(⟨cs[pn].fields.toArray⟩:ByteArray)=⟨(inh cs pv).toArray⟩from by rw[g6.out]];obtain⟨F,hF⟩: ∃F:ByteArray,(⟨(inh cs pv).toArray⟩:ByteArray)++o=F:=⟨_,rfl⟩;rw[hF];have HF:Hid ((⟨(inh cs pv).toArray⟩:ByteArray)++o=F):=hF;clear hF;have b1:(w2'.setCell ⟨wr.heap.size,1,none⟩ (.string F)).heap[wr.heap.size]?=some (.cells #[.int .i64 pv,.string F] 203):=bG w2' _ 1 _ _ _ b6
       have e7:RdB (w2'.setCell ⟨wr.heap.size,1,none⟩ (.string F)) b s j a2 src bi vc vt:=h7.but (au _ _ _ _) (by omega);have d6:ImB (w2'.setCell ⟨wr.heap.size,1,none⟩ (.string F)) bi (.slice (some ⟨ga,0,none⟩) cs.length cap) S_ S_:=h3.but (au _ _ _ _) (by omega);have e1:=aj j0 (au w2' wr.heap.size 1 (.string F)) (λg hg h=>by have:=aW a0 g hg;omega);have e6:But (λk=>k=b\/k=bi) w (w2'.setCell ⟨wr.heap.size,1,none⟩ (.string F)):=⟨a8.os,a8.tape,a8.output,by rw[bI];exact a8.size,λk hk hf=>((au w2' wr.heap.size 1 (.string F)).block k (bq hk a8.size) (by omega)).trans (a8.block k hk hf)⟩
       have b9:wr.heap.size<(w2'.setCell ⟨wr.heap.size,1,none⟩ (.string F)).heap.size:=ae b1;clear k0 k1 kf e0 e4 b6 h7 h3 j0 a8;generalize (w2'.setCell ⟨wr.heap.size,1,none⟩ (.string F))=W at*;have k0:=ce0 b1;have k1:=ce1 b1;have e0:=d6.c0;have e4:=e7.c4;have g0:=d6.fz 0;have bltW:=e7.lt;have biltW:=d6.lt;have ab:(Value.slice (some ⟨ga,0,none⟩) cs.length cap).ownBlock≠some b:=λh=>by have:=ay e1 _ h;omega
       have abi:(Value.slice (some ⟨ga,0,none⟩) cs.length cap).ownBlock≠some bi:=λh=>by have:=ay e1 _ h;omega
       have agk:(Value.slice (some ⟨ga,0,none⟩) cs.length cap).ownBlock≠some wr.heap.size:=λh=>by have:=aW a0 _ h;omega
       refine aI (But (λk=>(Value.slice (some ⟨ga,0,none⟩) cs.length cap).ownBlock=some k) W) 14 ?_;have h9:But (λk=>(Value.slice (some ⟨ga,0,none⟩) cs.length cap).ownBlock=some k) W W.drew:=aD _ _
       iterate 12 (refine aQ (v:=?_) rfl h9 ?_ ?_;rotate_left;(focus (intro wS h;have q0:=((h.cell (p:=⟨b,4,none⟩) bltW ab).trans e4);have q1:=((h.cell (p:=⟨bi,0,none⟩) biltW abi).trans e0);have q2:=((h.cell (p:=⟨wr.heap.size,0,none⟩) b9 agk).trans k0);have q3:=((h.cell (p:=⟨wr.heap.size,1,none⟩) b9 agk).trans k1);clear h;go_simp;try rfl));dsimp only[Act.put];try simp only[cH])
       refine az rfl ?_;intro KS hKS;go_simp;refine hKS.out _ _ (λ_=>(ag _ _ _).trans (aD _ _)) ?_;clear hKS KS;refine az rfl ?_;intro KS hKS
       refine step_append_lies _ (by rfl) _ _ _ (by rfl) w.heap.size 203 i0 _ 2 24 Tryz.underlying40 j5 l3 l4 l5 rfl (by omega) _ cs.length (dA cs) (by rfl) ((e1.alloc _).drew)
          ⟨W.heap.size,0,none⟩ 1 1 [.int .i64 pv,.string F] (by rfl) (by rfl) (fX (cs:=#[.int .i64 pv,.string F]) (t:=203) (fr:=(0,0)) (aO W _)) (by simp[Value.oneCell'])
          (by omega) (by unfold maxLen;omega) (by omega) (by simp;omega) (W.heap.size+1) (by simp) ?_
       intro gg a1 w2 a3 a6 m4 i3;have b0:But (λk=>(Value.slice (some ⟨ga,0,none⟩) cs.length cap).ownBlock=some k) W w2:=((ag _ _ _).trans (aD _ _)).trans (bc a6);refine hKS.out _ _ (λ_=>b0) ?_;clear hKS KS;have y0:=(b0.cell (p:=⟨bi,0,none⟩) biltW abi).trans e0;have y1:=(b0.frozen (p:=⟨bi,0,none⟩) biltW abi).trans g0;refine az rfl ?_;intro KS hKS;go_simp;refine hKS.out _ _ nofun ?_;clear hKS KS;refine az rfl ?_;intro KS hKS;go_simp;refine hKS.out _ _ nofun ?_;clear hKS KS;refine az rfl ?_;intro KS hKS;go_simp;refine hKS.out _ _ nofun ?_;clear hKS KS;refine aR rfl ?_;have e8:RdB (w2.setCell ⟨bi,0,none⟩ (.slice (some ⟨gg,0,none⟩) (cs.length+1) a1)) b s j a2 src bi vc vt:=(e7.but b0 ab).but (au _ _ _ _) hbi
       have h2:ImB (w2.setCell ⟨bi,0,none⟩ (.slice (some ⟨gg,0,none⟩) (cs.length+1) a1)) bi (.slice (some ⟨gg,0,none⟩) (cs.length+1) a1) S_ S_:=(d6.but b0 abi).set0 _;have n4:=ay a3 gg rfl;have h4:=aj a3 (au w2 bi 0 (.slice (some ⟨gg,0,none⟩) (cs.length+1) a1)) (λg hg h=>by have:=ay a3 g hg;omega)
       have f5:But (λk=>k=b\/k=bi) w (w2.setCell ⟨bi,0,none⟩ (.slice (some ⟨gg,0,none⟩) (cs.length+1) a1)):=
        (e6.next b0 (λk hk h=>absurd (ay e1 k h) (by omega))).next (au _ _ _ _) (λ_ _ h=>Or.inr h)
       clear y0 y1 e0 e4 g0 k0 k1 b0 a6;generalize (w2.setCell ⟨bi,0,none⟩ (.slice (some ⟨gg,0,none⟩) (cs.length+1) a1))=W3 at*;go_wp2_with (go_at_call 127;refine(cA b s j a2 src bi vc vt _ hs e8).mono ?_;rintro en w' ⟨rfl,n3,rfl⟩);obtain⟨rfl,tl,rfl,ht⟩ | ⟨rfl,ht⟩:=g7.out
       .go_roundg (f+1)
        case measure=>omega
        case rel=>
         refine⟨j,false,rfl,f5.next (aK (λ_=>False) _ _) (λ_ _ h=>h.elim),e8.drewN _,Or.inl ⟨rfl,f,cs++ [⟨pv,inh cs pv++tl⟩],_,rfl,by simp;omega,mB i6 a4.out ht,?_,h2,?_⟩⟩
         .rw[<-HT.out,ep,if_neg f3.out,a4.out];simp only[ht]
         .rw[lO,aZ];have hF:=HF.out;rw[show(⟨(inh cs pv++tl).toArray⟩:ByteArray)=F from by rw[<-hF];exact(fW _ _).symm];exact h4
       .go_roundg 0
        case measure=>omega
        case rel=>
         refine⟨j,true,rfl,f5.next (aK (λ_=>False) _ _) (λ_ _ h=>h.elim),e8.drewN _,Or.inr ⟨rfl,rfl,?_⟩⟩;rw[<-HT.out,ep,if_neg f3.out,a4.out];simp only[ht]
  .go_wp2_with fail;go_end0;exact⟨rfl,hB,b4⟩
end
end
end Go.Proofs.YtpfkkmacakjmbaaGreatDoor
