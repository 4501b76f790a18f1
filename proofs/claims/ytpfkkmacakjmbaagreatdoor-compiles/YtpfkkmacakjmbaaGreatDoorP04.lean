import Derived.Test.YtpfkkmacakjmbaaGreatDoorP00
set_option maxRecDepth 100000
set_option maxHeartbeats 6400000
set_option linter.all false
namespace Go.Proofs.YtpfkkmacakjmbaaGreatDoor
open Proofs.Tryz
section
open Go Go.RowKit Sp
section
variable (b:Nat) (s:ByteArray) (i:Nat) (bad src:Bool) (bi:Nat) (vc vt:Value) (w:World)
theorem bO (_hs:s.size<=2000) (hR:RdB w b s i bad src bi vc vt):
  Calls prog 127 #[.pointer (some ⟨b,0,none⟩)] w λe w'=>e= .returned (.int .u8 (pk s i).toNat)/\ ∃n,w'=w.drewN n:=by
 have a:=hR.c0;have c:=hR.c1;clear hR
 by_cases hi:(i:Int)<(s.size:Int)
 .have hp:pk s i=s[i]'(by omega):=by unfold pk;rw[dif_pos (by omega)]
  rw[hp];clear hp
  go_in
  go_wp2
  go_quiet (fail)
  go_wp2
  go_quiet (fail)
  go_wp2
  go_ret;exact⟨rfl,_,World.drewN_drewN _ _ _⟩
 .have hp:pk s i=0:=by unfold pk;rw[dif_neg (by omega)]
  rw[hp];clear hp
  go_in
  go_wp2
  go_quiet (fail)
  go_wp2
  go_ret;exact⟨rfl,_,rfl⟩
theorem A6 (c:UInt8) (hs:s.size<=2000) (hR:RdB w b s i bad src bi vc vt) (hc0:0<c.toNat) (hc:pk s i=c):
  Calls prog 130 #[.pointer (some ⟨b,0,none⟩),.int .u8 c.toNat] w λe w'=>e= .returned (.tuple #[])/\But (· =b) w w'/\RdB w' b s (i+1) bad src bi vc vt:=by
 have f:=hR.c1;have d:=hR.fz 1;have hi:i<s.size:=iw (hc▸hc0);have a:Hid (pk s i=c):=hc;clear hc
 go_in
 go_wp2_with (go_at_call 127;refine(bO b s i bad src bi vc vt _ hs hR).mono ?_;rw[a.out];rintro e w' ⟨rfl,n,rfl⟩);go_end0;exact⟨rfl,(aH _ _ _).trans (aj _ _ _ _),by simpa using(hR.drewN n).set1 (i+1)⟩
theorem CX (c:UInt8) (hs:s.size<=2000) (hR:RdB w b s i bad src bi vc vt) (hc:pk s i≠c):
  Calls prog 130 #[.pointer (some ⟨b,0,none⟩),.int .u8 c.toNat] w λe w'=>e= .returned (.tuple #[])/\But (· =b) w w'/\RdB w' b s i true src bi vc vt:=by
 have j:=hR.c2;have g:=hR.fz 2
 have a:(((pk s i).toNat:Int)==(c.toNat:Int))=false:=by
  rw[eu];intro h;exact hc (bJ (by omega))
 have d:(((pk s i).toNat:Int)!=(c.toNat:Int))=true:=by simp[bne,a]
 have f: ¬(((pk s i).toNat:Int)=(c.toNat:Int)):=by simpa using a
 clear hc
 go_in
 go_wp2_with (go_at_call 127;refine(bO b s i bad src bi vc vt _ hs hR).mono ?_;rintro e w' ⟨rfl,n,rfl⟩);go_end0;exact⟨rfl,(aH _ _ _).trans (aj _ _ _ _),(hR.drewN n).set2 true⟩
theorem mi {n:Nat} {c:UInt8}:gO n c=true↔48<=c.toNat/\c.toNat<=57/\c.toNat<48+n:=by simp[gO,and_assoc]
theorem gX {n:Nat} {c:UInt8}:aK n c=true↔65<=c.toNat/\c.toNat<65+n:=by simp[aK]
theorem lK {n:Nat} {c:UInt8}:cw n c=true↔c.toNat=105\/(65<=c.toNat/\c.toNat<65+n):=by simp[cw,aK]
theorem A7 (n:Nat) (hs:s.size<=2000) (hR:RdB w b s i bad src bi vc vt) (hd:gO n (pk s i)=true):
  Calls prog 131 #[.pointer (some ⟨b,0,none⟩),.int .i64 n] w λe w'=>e= .returned (.int .i64 (((pk s i).toNat-48:Nat):Int))/\But (· =b) w w'/\RdB w' b s (i+1) bad src bi vc vt:=by
 have h:=hR.c1;have g:=hR.fz 1;obtain⟨d1,d2,d3⟩:=mi.1 hd;have hi:i<s.size:=iw (by omega);clear hd;obtain⟨m,hm⟩: ∃m:Nat,(pk s i).toNat=m:=⟨_,rfl⟩;rw[hm]at d1 d2 d3⊢;have a:Hid ((pk s i).toNat=m):=hm;clear hm;have c:(48:Int)<=m:=by omega
 have d:(m:Int)<=57:=by omega
 have f:(m:Int)-48<n:=by omega
 go_in
 go_wp2_with (go_at_call 127;refine(bO b s i bad src bi vc vt _ hs hR).mono ?_;rw[a.out];rintro e w' ⟨rfl,k,rfl⟩);go_ret;exact⟨l9 (by omega),(aH _ _ _).trans (aj _ _ _ _),by simpa using(hR.drewN k).set1 (i+1)⟩
theorem yT (n:Nat) (hs:s.size<=2000) (hR:RdB w b s i bad src bi vc vt) (hd:gO n (pk s i)=false):
  Calls prog 131 #[.pointer (some ⟨b,0,none⟩),.int .i64 n] w λe w'=>e= .returned (.int .i64 0)/\But (· =b) w w'/\RdB w' b s i true src bi vc vt:=by
 have l:=hR.c2;have j:=hR.fz 2;have c: ¬(48<=(pk s i).toNat/\(pk s i).toNat<=57/\(pk s i).toNat<48+n):=λh=>by rw[mi.2 h]at hd;cases hd
 clear hd;have d:=(pk s i).toNat_lt;obtain⟨m,hm⟩: ∃m:Nat,(pk s i).toNat=m:=⟨_,rfl⟩;rw[hm]at c d;have f:Hid ((pk s i).toNat=m):=hm;clear hm;have g:(m:Int)<256:=by omega
 have a:(m:Int)<48\/(48<=(m:Int)/\(57:Int)<m)\/(48<=(m:Int)/\(m:Int)<=57/\(n:Int)<=(m:Int)-48):=by omega
 clear c d;obtain e1| ⟨e1,e2⟩ | ⟨e1,e2,e3⟩:=a
 all_goals
  go_in
  go_wp2_with (go_at_call 127;refine(bO b s i bad src bi vc vt _ hs hR).mono ?_;rw[f.out];rintro e w' ⟨rfl,k,rfl⟩);go_ret;exact⟨rfl,(aH _ _ _).trans (aj _ _ _ _),(hR.drewN k).set2 true⟩
theorem nE (n:Nat) (hs:s.size<=2000) (hn:n<=4) (hR:RdB w b s i bad src bi vc vt) (hd:aK n (pk s i)=true):
  Calls prog 128 #[.pointer (some ⟨b,0,none⟩),.int .i64 n] w λe w'=>e= .returned (.int .i64 (((pk s i).toNat-65:Nat):Int))/\But (· =b) w w'/\RdB w' b s (i+1) bad src bi vc vt:=by
 have h:=hR.c1;have g:=hR.fz 1;obtain⟨d1,d3⟩:=gX.1 hd;have hi:i<s.size:=iw (by omega);clear hd;obtain⟨m,hm⟩: ∃m:Nat,(pk s i).toNat=m:=⟨_,rfl⟩;rw[hm]at d1 d3⊢;have a:Hid ((pk s i).toNat=m):=hm;clear hm;have c:(65:Int)<=m:=by omega
 have d:(m:Int)<=68:=by omega
 have f:(m:Int)-65<n:=by omega
 go_in
 go_wp2_with (go_at_call 127;refine(bO b s i bad src bi vc vt _ hs hR).mono ?_;rw[a.out];rintro e w' ⟨rfl,k,rfl⟩);go_ret;exact⟨l9 (by omega),(aH _ _ _).trans (aj _ _ _ _),by simpa using(hR.drewN k).set1 (i+1)⟩
theorem mj (n:Nat) (hs:s.size<=2000) (hR:RdB w b s i bad src bi vc vt) (hd:aK n (pk s i)=false):
  Calls prog 128 #[.pointer (some ⟨b,0,none⟩),.int .i64 n] w λe w'=>e= .returned (.int .i64 0)/\But (· =b) w w'/\RdB w' b s i true src bi vc vt:=by
 have l:=hR.c2;have j:=hR.fz 2;have c: ¬(65<=(pk s i).toNat/\(pk s i).toNat<65+n):=λh=>by rw[gX.2 h]at hd;cases hd
 clear hd;have d:=(pk s i).toNat_lt;obtain⟨m,hm⟩: ∃m:Nat,(pk s i).toNat=m:=⟨_,rfl⟩;rw[hm]at c d;have f:Hid ((pk s i).toNat=m):=hm;clear hm;have g:(m:Int)<256:=by omega
 have a:(m:Int)<65\/(65<=(m:Int)/\(68:Int)<m)\/(65<=(m:Int)/\(m:Int)<=68/\(n:Int)<=(m:Int)-65):=by omega
 clear c d;obtain e1| ⟨e1,e2⟩ | ⟨e1,e2,e3⟩:=a
 all_goals
  go_in
  go_wp2_with (go_at_call 127;refine(bO b s i bad src bi vc vt _ hs hR).mono ?_;rw[f.out];rintro e w' ⟨rfl,k,rfl⟩);go_ret;exact⟨rfl,(aH _ _ _).trans (aj _ _ _ _),(hR.drewN k).set2 true⟩
theorem F5 (cc:Int) (c:UInt8) (hcc:cc=c.toNat) (hs:s.size<=2000) (hR:RdB w b s i false src bi vc vt) (hc0:0<c.toNat):
  Calls prog 130 #[.pointer (some ⟨b,0,none⟩),.int .u8 cc] w λe w'=>e= .returned (.tuple #[])/\But (· =b) w w'/\
   ∃j bad,RdB w' b s j bad src bi vc vt/\((bad=false/\mH s c i= .ok j)\/(bad=true/\mH s c i= .error j)):=by
 subst hcc
 by_cases h:pk s i=c
 .refine(A6 b s i false src bi vc vt w c hs hR hc0 h).mono ?_;rintro e w' ⟨rfl,a,d⟩;exact⟨rfl,a,i+1,false,d,Or.inl ⟨rfl,by simp[mH,h]⟩⟩
 .refine(CX b s i false src bi vc vt w c hs hR h).mono ?_;rintro e w' ⟨rfl,a,d⟩;exact⟨rfl,a,i,true,d,Or.inr ⟨rfl,by simp[mH,h]⟩⟩
theorem dD (nn:Int) (n:Nat) (hnn:nn=n) (hs:s.size<=2000) (hR:RdB w b s i false src bi vc vt):
  Calls prog 131 #[.pointer (some ⟨b,0,none⟩),.int .i64 nn] w λe w'=>But (· =b) w w'/\
   ∃v j bad,e= .returned (.int .i64 v)/\RdB w' b s j bad src bi vc vt/\((bad=false/\ ∃d:Nat,v=d/\d<10/\eB s n i= .ok (d,j))\/(bad=true/\eB s n i= .error j)):=by
 subst hnn
 cases h:gO n (pk s i)with
 |true=>
  refine(A7 b s i false src bi vc vt w n hs hR h).mono ?_;rintro e w' ⟨rfl,a,c⟩;have:=mi.1 h;exact⟨a,_,i+1,false,rfl,c,Or.inl ⟨rfl,_,rfl,by omega,by simp[eB,h]⟩⟩
 |false=>
  refine(yT b s i false src bi vc vt w n hs hR h).mono ?_;rintro e w' ⟨rfl,a,c⟩;exact⟨a,_,i,true,rfl,c,Or.inr ⟨rfl,by simp[eB,h]⟩⟩
theorem gH (nn:Int) (n:Nat) (hnn:nn=n) (hn:n<=4) (hs:s.size<=2000) (hR:RdB w b s i false src bi vc vt):
  Calls prog 128 #[.pointer (some ⟨b,0,none⟩),.int .i64 nn] w λe w'=>But (· =b) w w'/\
   ∃v j bad,e= .returned (.int .i64 v)/\RdB w' b s j bad src bi vc vt/\((bad=false/\ ∃d:Nat,v=d/\d<n/\fj s n i= .ok (d,j))\/(bad=true/\fj s n i= .error j)):=by
 subst hnn
 cases h:aK n (pk s i)with
 |true=>
  refine(nE b s i false src bi vc vt w n hs hn hR h).mono ?_;rintro e w' ⟨rfl,a,c⟩;have:=gX.1 h;exact⟨a,_,i+1,false,rfl,c,Or.inl ⟨rfl,_,rfl,by omega,by simp[fj,h]⟩⟩
 |false=>
  refine(mj b s i false src bi vc vt w n hs hR h).mono ?_;rintro e w' ⟨rfl,a,c⟩;exact⟨a,_,i,true,rfl,c,Or.inr ⟨rfl,by simp[fj,h]⟩⟩
end
theorem FS {a c:UInt8} (h:a≠c):(((a.toNat:Int))!=(c.toNat:Int))=true:=by
 rw[bne_iff_ne];intro h';exact h (bJ (by omega))
theorem FT {a c:UInt8} (h:a=c):(((a.toNat:Int))!=(c.toNat:Int))=false:=by subst h;simp
section
variable (b:Nat) (s:ByteArray) (i:Nat) (src:Bool) (bi:Nat) (vc vt:Value) (w:World)
theorem yU (k n:Nat) (e:UInt8) (hs:s.size<=2000) (hn:n<=4) (hk:k<=4) (he:0<e.toNat) (hR:RdB w b s i false src bi vc vt):
  Calls prog 79 #[.pointer (some ⟨b,0,none⟩),.int .i64 k,.int .i64 n,.int .u8 e.toNat] w λen w'=>But (· =b) w w'/\
   match tys s n e k [] i with
   | .ok (t,j)=>en= .returned (.string ⟨t.toArray⟩)/\RdB w' b s j false src bi vc vt
   | .error j=>(∃t,en= .returned (.string t)/\t.size<=k+1)/\RdB w' b s j true src bi vc vt:=by
 obtain⟨R,r⟩: ∃R,tys s n e k [] i=R:=⟨_,rfl⟩;rw[r];have C:Hid (tys s n e k [] i=R):=r;clear r
 go_in
 go_wp2_with (go_at_call 127;refine(bO b s i false src bi vc vt _ hs hR).mono ?_;rintro en w' ⟨rfl,nn,rfl⟩)
 go_loopg [9,10] (k+1) (λm t c wr=> ∃(tl:L_) (i':Nat) (bad':Bool),t= .string ⟨tl.toArray⟩/\c= .int .u8 (pk s i').toNat/\But (· =b) w wr/\RdB wr b s i' bad' src bi vc vt/\
  ((bad'=false/\ ∃f,m=f+1/\f+tl.length=k/\tys s n e f tl i'=R)\/(bad'=true/\m=0/\R= .error i'/\tl.length<=k+1)))
 case atStart=>exact⟨[],i,false,rfl,rfl,aH _ _ _,hR.drewN _,Or.inl ⟨rfl,k,rfl,by simp,C.out⟩⟩
 case round=>
  obtain⟨tl,i',bad',rfl,rfl,x,d,v⟩:=hrel;have c1:=d.c1;have c2:=d.c2;have L:=d.fz 1;have M:=d.fz 2;obtain⟨rfl,f,rfl,J,A⟩ | ⟨rfl,rfl,rfl,E⟩:=v
  .have HT:Hid (tys s n e f tl i'=R):=A;clear A
   by_cases hpe:pk s i'=e
   · --the end
    have hi:i'<s.size:=iw (by rw[hpe];exact he);have F:=FT hpe;have a:R= .ok (tl,i'+1):=by rw[<-HT.out];cases f<;>simp[tys,hpe]
    subst a;clear HT hpe;go_wp2_with fail;go_ret;exact⟨x.trans (aj _ _ _ _),rfl,d.inc⟩
   .have F:=FS hpe
    cases f with
    |zero=>
     have a:R= .error i':=by rw[<-HT.out];simp[tys,hpe]
     subst a;have z:(k:Int)<=(tl.length:Int):=by omega
     clear HT hpe;go_wp2_with (go_at_call 127;refine(bO b s i' true src bi vc vt _ hs (d.set2 true)).mono ?_;rintro en w' ⟨rfl,nn,rfl⟩)
     go_roundg 0
     case measure=>omega
     case rel=>exact⟨tl,i',true,rfl,rfl,(x.trans (aj _ _ _ _)).trans (aH _ _ _),(d.set2 true).drewN _,Or.inr ⟨rfl,rfl,rfl,by omega⟩⟩
    |succ f=>
     have z: ¬(k:Int)<=(tl.length:Int):=by omega
     by_cases h105:(pk s i').toNat=105
     .have hi:i'<s.size:=iw (by omega);have a:tys s n e f (tl++ [pk s i']) (i'+1)=R:=by rw[<-HT.out];simp[tys,hpe,lK.2 (Or.inl h105)]
      have H:=a;have l:pk s i'=105:=bJ (by rw[h105];rfl);have G:Hid (pk s i'=105):=l;have p:Hid (tys s n e f (tl++ [pk s i']) (i'+1)=R):=a;have I:(((pk s i').toNat:Int)==105)=true:=by rw[aX];omega
      clear HT hpe a H l h105;go_wp2_with (go_at_call 127;refine(bO b s (i'+1) false src bi vc vt _ hs d.inc).mono ?_;rintro en w' ⟨rfl,nn,rfl⟩)
      go_roundg (f+1)
      case measure=>omega
      case rel=>exact⟨tl++ [pk s i'],i'+1,false,by rw[G.out];exact congrArg Value.string (fp _ _),rfl,(x.trans (aj _ _ _ _)).trans (aH _ _ _),d.inc.drewN _,Or.inl ⟨rfl,f,rfl,by simp;omega,p.out⟩⟩
     .have I:(((pk s i').toNat:Int)==105)=false:=by rw[eu];omega
      by_cases hl:aK n (pk s i')=true
      .have a:tys s n e f (tl++ [pk s i']) (i'+1)=R:=by rw[<-HT.out];simp[tys,hpe,lK.2 (Or.inr (gX.1 hl))]
       have p:Hid (tys s n e f (tl++ [pk s i']) (i'+1)=R):=a;have B:Hid (aK n (pk s i')=true):=hl;clear HT hpe a hl h105;have D:=qf (pk s i');go_wp2_with (first| (go_at_call 128;refine(nE b s i' false src bi vc vt _ n hs hn d B.out).mono ?_;rintro en w1 ⟨rfl,q,g⟩) | (go_at_call 127;refine(bO b s (i'+1) false src bi vc vt _ hs (g.alloc _)).mono ?_;rintro en w' ⟨rfl,nn,rfl⟩))
       go_roundg (f+1)
       case measure=>omega
       case rel=>exact⟨tl++ [pk s i'],i'+1,false,congrArg Value.string (fp _ _),rfl,((x.trans q).trans (aa _ _ _)).trans (aH _ _ _),(g.alloc _).drewN _,Or.inl ⟨rfl,f,rfl,by simp;omega,p.out⟩⟩
      .have y:aK n (pk s i')=false:=by simpa using hl
       have a:R= .error i':=by
        rw[<-HT.out]
        have: ¬cw n (pk s i')=true:=λh=>by
         obtain h|h:=lK.1 h
         .exact h105 h
         .exact hl (gX.2 h)
        simp[tys,hpe,this]
       have B:Hid (aK n (pk s i')=false):=y;subst a;clear HT hpe hl y h105;have D:=qf (pk s i');go_wp2_with (first| (go_at_call 128;refine(mj b s i' false src bi vc vt _ n hs d B.out).mono ?_;rintro en w1 ⟨rfl,q,g⟩) | (go_at_call 127;refine(bO b s i' true src bi vc vt _ hs (g.alloc _)).mono ?_;rintro en w' ⟨rfl,nn,rfl⟩))
       go_roundg 0
       case measure=>omega
       case rel=>exact⟨tl++ [pk s i'],i',true,congrArg Value.string (fp _ _),rfl,((x.trans q).trans (aa _ _ _)).trans (aH _ _ _),(g.alloc _).drewN _,Or.inr ⟨rfl,rfl,rfl,by simp;omega⟩⟩
  .go_wp2_with fail;go_ret;exact⟨x,⟨_,rfl,by simpa[ByteArray.size]using E⟩,d⟩
theorem iD (kk nn ee:Int) (k n:Nat) (e:UInt8) (hkk:kk=k) (hnn:nn=n) (hee:ee=e.toNat) (hs:s.size<=2000) (hn:n<=4) (hk:k<=4) (he:0<e.toNat) (hR:RdB w b s i false src bi vc vt):
  Calls prog 79 #[.pointer (some ⟨b,0,none⟩),.int .i64 kk,.int .i64 nn,.int .u8 ee] w λen w'=>But (· =b) w w'/\
   ∃t j bad,en= .returned (.string t)/\t.size<=k+1/\RdB w' b s j bad src bi vc vt/\((bad=false/\ ∃tl:L_,t=⟨tl.toArray⟩/\tys s n e k [] i= .ok (tl,j))\/(bad=true/\tys s n e k [] i= .error j)):=by
 subst hkk hnn hee;refine(yU b s i src bi vc vt w k n e hs hn hk he hR).mono ?_;rintro en w' ⟨f,h⟩;refine⟨f,?_⟩;rcases ht:tys s n e k [] i with j| ⟨t,j⟩
 .rw[ht]at h;obtain⟨⟨t,a,c⟩,d⟩:=h;exact⟨t,j,true,a,c,d,Or.inr ⟨rfl,rfl⟩⟩
 .rw[ht]at h;obtain⟨a,c⟩:=h;have:=fL ht;exact⟨_,j,false,a,by simpa[ByteArray.size]using Nat.le_succ_of_le this,c,Or.inl ⟨rfl,t,rfl,rfl⟩⟩
theorem A8 (ao:Option Addr) (n cap:Nat) (v1 v2:Value) (hs:s.size<=2000) (hn:n<=4) (hI:ImB w bi (.slice ao n cap) v1 v2) (hR:RdB w b s i false src bi vc vt) (ht:cw n (pk s i)=true):
  Calls prog 129 #[.pointer (some ⟨b,0,none⟩)] w λen w'=>en= .returned (.int .u8 (pk s i).toNat)/\But (· =b) w w'/\RdB w' b s (i+1) false src bi vc vt:=by
 have f:=hR.c1;have g:=hR.c4;have j:=hR.fz 1;have k:=hI.c0;have h:=lK.1 ht;have hi:i<s.size:=iw (by omega)
 by_cases h105:(pk s i).toNat=105
 .have e:(((pk s i).toNat:Int)==105)=true:=by rw[aX];omega
  clear h h105 ht
  go_in
  go_wp2_with (go_at_call 127;refine(bO b s i false src bi vc vt _ hs hR).mono ?_;rintro en w' ⟨rfl,nn,rfl⟩);go_ret;exact⟨rfl,(aH _ _ _).trans (aj _ _ _ _),(hR.drewN nn).inc⟩
 .have e:(((pk s i).toNat:Int)==105)=false:=by rw[eu];omega
  have d:Hid (aK n (pk s i)=true):=gX.2 (by omega);clear h h105 ht
  go_in
  go_wp2_with (first| (go_at_call 127;refine(bO b s i false src bi vc vt _ hs hR).mono ?_;rintro en w' ⟨rfl,nn,rfl⟩) | (go_at_call 128;refine(nE b s i false src bi vc vt _ n hs hn (hR.drewN _) d.out).mono ?_;rintro en w1 ⟨rfl,a,c⟩));go_ret;exact⟨rfl,(aH _ _ _).trans a,c⟩
theorem yk (ao:Option Addr) (n cap:Nat) (v1 v2:Value) (hs:s.size<=2000) (hI:ImB w bi (.slice ao n cap) v1 v2) (hR:RdB w b s i false src bi vc vt) (ht:cw n (pk s i)=false):
  Calls prog 129 #[.pointer (some ⟨b,0,none⟩)] w λen w'=>(∃c,en= .returned (.int .u8 c))/\But (· =b) w w'/\RdB w' b s i true src bi vc vt:=by
 have f:=hR.c4;have g:=hI.c0;have h: ¬((pk s i).toNat=105\/(65<=(pk s i).toNat/\(pk s i).toNat<65+n)):=λh=>by rw[lK.2 h]at ht;cases ht
 have j:(((pk s i).toNat:Int)==105)=false:=by rw[eu];omega
 have hl:aK n (pk s i)=false:=by
  cases hh:aK n (pk s i)with
  |false=>rfl
  |true=>exact absurd (Or.inr (gX.1 hh)) h
 have e:Hid (aK n (pk s i)=false):=hl;clear h hl ht
 go_in
 go_wp2_with (first| (go_at_call 127;refine(bO b s i false src bi vc vt _ hs hR).mono ?_;rintro en w' ⟨rfl,nn,rfl⟩) | (go_at_call 128;refine(mj b s i false src bi vc vt _ n hs (hR.drewN _) e.out).mono ?_;rintro en w1 ⟨rfl,a,d⟩));go_ret;exact⟨⟨_,rfl⟩,(aH _ _ _).trans a,d⟩
end
end
section
open Go Go.RowKit Sp
attribute [local go_sem ↓] eY eZ
theorem A9:(prog.info? 203).map (λi=>(i.zero,i.size,i.bytes))=some (some (.agg #[.int .i64 0,.string ⟨#[]⟩]),2,24):=by kernel_rfl
section
variable (b:Nat) (s:ByteArray) (i:Nat) (src:Bool) (bi:Nat) (vc vt:Value) (w:World)
theorem pu (hs:s.size<=2000) (hbi:b≠bi) (hR:RdB w b s i false src bi vc vt) (hI:ImB w bi S_ S_ S_):
  Calls prog 76 #[.pointer (some ⟨b,0,none⟩)] w λen w'=>en= .returned (.tuple #[])/\But (λk=>k=b\/k=bi) w w'/\
   match dR s 4 [] i with
   | .ok (cs,j)=>RdB w' b s j false src bi vc vt/\ ∃v,ImB w' bi v S_ S_/\w'.ownsRow w.heap.size 203 2 v cs.length (dw cs)
   | .error j=>RdB w' b s j true src bi vc vt:=by
 obtain⟨R,e5⟩: ∃R,dR s 4 [] i=R:=⟨_,rfl⟩;rw[e5];have h9:Hid (dR s 4 [] i=R):=e5;clear e5;obtain⟨i0,g6,h3,h4,h6⟩:=info_parts A9
 go_in
 go_wp2_with (go_at_call 127;refine(bO b s i false src bi vc vt _ hs hR).mono ?_;rintro en w' ⟨rfl,nn,rfl⟩)
 go_loopg [2] 5 (λm c wr=> ∃(i':Nat) (bad':Bool),c= .int .u8 (pk s i').toNat/\But (λk=>k=b\/k=bi) w wr/\RdB wr b s i' bad' src bi vc vt/\
  ((bad'=false/\ ∃f cs v,m=f+1/\f+List.length cs=4/\WfC cs/\dR s f cs i'=R/\ImB wr bi v S_ S_/\wr.ownsRow w.heap.size 203 2 v cs.length (dw cs))\/(bad'=true/\m=0/\R= .error i')))
 case atStart=>exact⟨i,false,rfl,aH _ _ _,hR.drewN _,Or.inl ⟨rfl,4,[],_,rfl,rfl,(λj c h=>by simp at h),h9.out,hI,cR _ _ _ _⟩⟩
 case round=>
  obtain⟨i',bad',rfl,hB,z,b0⟩:=hrel;have c1:=z.c1;have c2:=z.c2;have c4:=z.c4;have f1:=z.fz 1;have f2:=z.fz 2;obtain⟨rfl,f,cs,v,rfl,g4,f5,h0,a4,a⟩ | ⟨rfl,rfl,rfl⟩:=b0
  .have HT:Hid (dR s f cs i'=R):=h0;have i5:f+cs.length<=4:=by omega
   have i6:4<=f+cs.length:=by omega
   have blt:=z.lt;have bilt:=a4.lt;clear h0 g4;obtain⟨ao,cap,rfl⟩:=ay a;have d0:=a4.c0
   by_cases hpe:(pk s i').toNat=59
   · --the end
    have hi:i'<s.size:=iw (by omega);have j2:(((pk s i').toNat:Int)!=59)=false:=by rw[bne_eq_false_iff_eq];omega
    have O:R= .ok (cs,i'+1):=by rw[<-HT.out];cases f<;>simp[dR,hpe]
    subst O;clear HT hpe;go_wp2_with fail;go_end0;exact⟨rfl,hB.trans ((aj _ _ _ _).mono (λ_ _ h=>Or.inl h)),z.inc,_,a4.but (aj _ _ _ _) (λh=>hbi h.symm),ag a (aj _ _ _ _) (λg hg h=>by have:=aw a g hg;have:=hR.lt;omega)⟩
   .have j2:(((pk s i').toNat:Int)!=59)=true:=by rw[bne_iff_ne];omega
    cases f with
    |zero=>
     have O:R= .error i':=by rw[<-HT.out];simp[dR,hpe]
     subst O;have e8:(4:Int)<=(cs.length:Int):=by omega
     clear HT hpe;go_wp2_with fail;exact fY results76 rfl ⟨rfl,hB.trans ((aj _ _ _ _).mono (λ_ _ h=>Or.inl h)),z.set2 true⟩
    |succ f=>
     have e8: ¬(4:Int)<=(cs.length:Int):=by omega
     by_cases h45:(pk s i').toNat=45
     .have hi:i'<s.size:=iw (by omega);have h5:(((pk s i').toNat:Int)==45)=true:=by rw[aX];omega
      have f6:Hid ((pk s i').toNat=45):=h45;have a1:Hid (¬(pk s i').toNat=59):=hpe;clear h45 hpe;have b2:jY s cs.length i'= .ok (-1,i'+1):=by simp[jY,f6.out]
      have x:Hid (jY s cs.length i'= .ok (-1,i'+1)):=b2;clear b2;go_wp2_with fail;refine(iD b s (i'+1) src bi vc vt _ _ _ _ 2 (cs.length+1) 46 rfl (by omega) rfl hs (by omega) (by omega) (by decide) (z.inc.alloc _)).mono ?_;rintro en w1 ⟨y,o,j,e,rfl,j3,r,D⟩;have b6:Hid ((e=false/\ ∃tl:L_,o=⟨tl.toArray⟩/\tys s (cs.length+1) 46 2 [] (i'+1)= .ok (tl,j))\/(e=true/\tys s (cs.length+1) 46 2 [] (i'+1)= .error j)):=D;clear D
      have l:w1.heap[wr.heap.size]?=some (.cells #[.int .i64 (-1),.string ⟨#[]⟩] 203):=by
       rw[y.block _ (by simp) (by omega)];exact aB (aU _ _ _) _
      have I:ImB w1 bi (.slice ao cs.length cap) S_ S_:=(a4.but ((aj _ b _ _).trans (aa _ _ _)) (λh=>hbi h.symm)).but y (λh=>hbi h.symm);have X:=ag (ag a ((aj _ b _ _).trans (aa _ _ _)) (λg hg h=>by have:=aw a g hg;have:=hR.lt;omega)) y (λg hg h=>by have:=aw a g hg;have:=hR.lt;omega);have E:But (λk=>k=b\/k=bi) w w1:=hB.trans ((((aj _ b _ _).trans (aa _ _ _)).trans y).mono (λ_ _ h=>Or.inl h));have b4:wr.heap.size<w1.heap.size:=ae l;have h2:=hB.size;have i4:=hR.lt;have e7:=hI.lt;have k0:=ce0 l;have k1:=ce1 l;have kf:w1.frozen? ⟨wr.heap.size,1,none⟩=false:=bG w1 _ 1 _ _ l
      have S:=I.c0;have e2:=r.c2;have e4:=r.c4;have f3:(⟨#[]⟩:ByteArray).size+o.size<=1000:=by show 0+o.size<=1000;omega
      clear c1 c2 c4 f1 f2 d0;go_wp2_with fail;rw[show(⟨#[]⟩:ByteArray)=⟨(inh cs (-1)).toArray⟩from rfl];obtain⟨pv,Y⟩: ∃pv:Int,pv= -1:=⟨_,rfl⟩;rw[<-Y]at l x⊢;clear Y k0;obtain⟨F,hF⟩: ∃F:ByteArray,(⟨(inh cs pv).toArray⟩:ByteArray)++o=F:=⟨_,rfl⟩;rw[hF];have HF:Hid ((⟨(inh cs pv).toArray⟩:ByteArray)++o=F):=hF;clear hF;have B:(w1.setCell ⟨wr.heap.size,1,none⟩ (.string F)).heap[wr.heap.size]?=some (.cells #[.int .i64 pv,.string F] 203):=cQ w1 _ 1 _ _ _ l;have P:RdB (w1.setCell ⟨wr.heap.size,1,none⟩ (.string F)) b s j e src bi vc vt:=r.but (aj _ _ _ _) (by omega);have G:ImB (w1.setCell ⟨wr.heap.size,1,none⟩ (.string F)) bi (.slice ao cs.length cap) S_ S_:=I.but (aj _ _ _ _) (by omega)
      have H:=ag X (aj w1 wr.heap.size 1 (.string F)) (λg hg h=>by have:=aY a g hg;omega);have a0:But (λk=>k=b\/k=bi) w (w1.setCell ⟨wr.heap.size,1,none⟩ (.string F)):=⟨E.os,E.tape,E.output,by rw[aU];exact E.size,λk hk hf=>((aj w1 wr.heap.size 1 (.string F)).block k (bK hk E.size) (by omega)).trans (E.block k hk hf)⟩;have M:wr.heap.size<(w1.setCell ⟨wr.heap.size,1,none⟩ (.string F)).heap.size:=ae B;clear k1 kf S e2 e4 l r I X E b4 y;generalize (w1.setCell ⟨wr.heap.size,1,none⟩ (.string F))=W at*;have k0:=ce0 B;have k1:=ce1 B;have S:=G.c0;have e4:=P.c4;have g0:=G.fz 0;have bltW:=P.lt;have biltW:=G.lt
      have ab:(Value.slice ao cs.length cap).ownBlock≠some b:=λh=>by have:=aw H _ h;omega
      have abi:(Value.slice ao cs.length cap).ownBlock≠some bi:=λh=>by have:=aw H _ h;omega
      have agk:(Value.slice ao cs.length cap).ownBlock≠some wr.heap.size:=λh=>by have:=aY a _ h;omega
      refine aD (But (λk=>(Value.slice ao cs.length cap).ownBlock=some k) W) 14 ?_;have e6:But (λk=>(Value.slice ao cs.length cap).ownBlock=some k) W W.drew:=aA _ _
      iterate 12 (refine aF (v:=?_) rfl e6 ?_ ?_;rotate_left;(focus (intro wS h;have q0:=((h.cell (p:=⟨b,4,none⟩) bltW ab).trans e4);have q1:=((h.cell (p:=⟨bi,0,none⟩) biltW abi).trans S);have q2:=((h.cell (p:=⟨wr.heap.size,0,none⟩) M agk).trans k0);have q3:=((h.cell (p:=⟨wr.heap.size,1,none⟩) M agk).trans k1);clear h;go_simp;try rfl));dsimp only[Act.put];try simp only[bW])
      refine au rfl ?_;intro KS hKS;go_simp;refine hKS.out _ _ (λ_=>(aa _ _ _).trans (aA _ _)) ?_;clear hKS KS;refine au rfl ?_;intro KS hKS
      refine step_append_lies _ (by rfl) _ _ _ (by rfl) w.heap.size 203 i0 _ 2 24 Tryz.underlying40 g6 h3 h4 h6 rfl (by omega) _ cs.length (dw cs) (by rfl) ((H.alloc _).drew)
         ⟨W.heap.size,0,none⟩ 1 1 [.int .i64 pv,.string F] (by rfl) (by rfl) (iu (cs:=#[.int .i64 pv,.string F]) (t:=203) (fr:=(0,0)) (aO W _)) (by simp[Value.oneCell'])
         (by omega) (by unfold maxLen;omega) (by omega) (by simp;omega) (W.heap.size+1) (by simp) ?_
      intro gg d Z q C i3 f0;have n:But (λk=>(Value.slice ao cs.length cap).ownBlock=some k) W Z:=((aa _ _ _).trans (aA _ _)).trans (a8 C);refine hKS.out _ _ (λ_=>n) ?_;clear hKS KS;have y0:=(n.cell (p:=⟨bi,0,none⟩) biltW abi).trans S;have y1:=(n.frozen (p:=⟨bi,0,none⟩) biltW abi).trans g0;refine au rfl ?_;intro KS hKS;go_simp;refine hKS.out _ _ nofun ?_;clear hKS KS;refine au rfl ?_;intro KS hKS;go_simp;refine hKS.out _ _ nofun ?_;clear hKS KS;refine au rfl ?_;intro KS hKS;go_simp;refine hKS.out _ _ nofun ?_;clear hKS KS;refine aI rfl ?_;have Q:RdB (Z.setCell ⟨bi,0,none⟩ (.slice (some ⟨gg,0,none⟩) (cs.length+1) d)) b s j e src bi vc vt:=(P.but n ab).but (aj _ _ _ _) hbi
      have b9:ImB (Z.setCell ⟨bi,0,none⟩ (.slice (some ⟨gg,0,none⟩) (cs.length+1) d)) bi (.slice (some ⟨gg,0,none⟩) (cs.length+1) d) S_ S_:=(G.but n abi).set0 _;have j1:=aw q gg rfl;have c9:=ag q (aj Z bi 0 (.slice (some ⟨gg,0,none⟩) (cs.length+1) d)) (λg hg h=>by have:=aw q g hg;omega)
      have a3:But (λk=>k=b\/k=bi) w (Z.setCell ⟨bi,0,none⟩ (.slice (some ⟨gg,0,none⟩) (cs.length+1) d)):=
       (a0.next n (λk hk h=>absurd (aw H k h) (by omega))).next (aj _ _ _ _) (λ_ _ h=>Or.inr h)
      clear y0 y1 S e4 g0 k0 k1 n C;generalize (Z.setCell ⟨bi,0,none⟩ (.slice (some ⟨gg,0,none⟩) (cs.length+1) d))=W3 at*;go_wp2_with (go_at_call 127;refine(bO b s j e src bi vc vt _ hs Q).mono ?_;rintro en w' ⟨rfl,n3,rfl⟩);obtain⟨rfl,tl,rfl,ht⟩ | ⟨rfl,ht⟩:=b6.out
      .go_roundg (f+1)
       case measure=>omega
       case rel=>
        refine⟨j,false,rfl,a3.next (aH (λ_=>False) _ _) (λ_ _ h=>h.elim),Q.drewN _,Or.inl ⟨rfl,f,cs++ [⟨pv,inh cs pv++tl⟩],_,rfl,by simp;omega,nw f5 x.out ht,?_,b9,?_⟩⟩
        .rw[<-HT.out,dR,if_neg a1.out,x.out];simp only[ht]
        .rw[mJ,aN];have hF:=HF.out;rw[show(⟨(inh cs pv++tl).toArray⟩:ByteArray)=F from by rw[<-hF];exact(db _ _).symm];exact c9
      .go_roundg 0
       case measure=>omega
       case rel=>
        refine⟨j,true,rfl,a3.next (aH (λ_=>False) _ _) (λ_ _ h=>h.elim),Q.drewN _,Or.inr ⟨rfl,rfl,?_⟩⟩;rw[<-HT.out,dR,if_neg a1.out,x.out];simp only[ht]
     .have f6:Hid (¬(pk s i').toNat=45):=h45;have a1:Hid (¬(pk s i').toNat=59):=hpe;have h5:(((pk s i').toNat:Int)==45)=false:=by rw[eu];omega
      cases hl:aK cs.length (pk s i')with
      |false=>
       have HL:Hid (aK cs.length (pk s i')=false):=hl;have O:R= .error i':=by rw[<-HT.out,dR,if_neg hpe];simp[jY,fj,h45,hl]
       subst O;clear h45 hpe hl HT;go_wp2_with fail;refine(mj b s i' false src bi vc vt _ cs.length hs (z.alloc _) HL.out).mono ?_;rintro en w1 ⟨rfl,y,r⟩
       have l:w1.heap[wr.heap.size]?=some (.cells #[.int .i64 (-1),.string ⟨#[]⟩] 203):=by
        rw[y.block _ (by simp) (by omega)];exact aO _ _
       have k0:=ce0 l;have kf:w1.frozen? ⟨wr.heap.size,0,none⟩=false:=bG w1 _ 0 _ _ l;have e2:=r.c2;have T:b≠wr.heap.size:=by omega
       clear c1 c2 c4 f1 f2 d0;go_wp2_with fail;have h2:=hB.size;exact fY results76 rfl ⟨rfl,((hB.next (aa (λ_=>False) _ _) (λ_ _ h=>h.elim)).next y (λ_ _ h=>Or.inl h)).next (aj _ _ _ _) (λk hk h=>by omega),r.but (aj _ _ _ _) T⟩
      |true=>
       have HL:Hid (aK cs.length (pk s i')=true):=hl;obtain⟨pn,f4⟩: ∃pn:Nat,(pk s i').toNat-65=pn:=⟨_,rfl⟩;have j5:pn<cs.length:=by have:=gX.1 hl;omega
       obtain⟨pv,Y⟩: ∃pv:Int,pv=(pn:Int):=⟨_,rfl⟩
       have x:Hid (jY s cs.length i'= .ok (pv,i'+1)):=by
        show jY s cs.length i'= .ok (pv,i'+1)
        simp[jY,fj,h45,hl,Y,f4]
       have h8:Hid ((pk s i').toNat-65=pn):=f4;have b7:Hid (pv=(pn:Int)):=Y;have j7:(0:Int)<=pv:=by omega
       have k2:pv<(cs.length:Int):=by omega
       clear h45 hpe hl f4 Y;go_wp2_with fail;refine(nE b s i' false src bi vc vt _ cs.length hs (by omega) (z.alloc _) HL.out).mono ?_;rw[h8.out,<-b7.out];rintro en wB ⟨rfl,b8,e1⟩
       have J:wB.heap[wr.heap.size]?=some (.cells #[.int .i64 (-1),.string ⟨#[]⟩] 203):=by
        rw[b8.block _ (by simp) (by omega)];exact aO _ _
       have k0:=ce0 J;have kf:wB.frozen? ⟨wr.heap.size,0,none⟩=false:=bG wB _ 0 _ _ J;have e2:=e1.c2;have T:b≠wr.heap.size:=by omega
       have a5:bi≠wr.heap.size:=by omega
       clear c1 c2 c4 f1 f2 d0;go_wp2_with fail;refine(iD b s (i'+1) src bi vc vt _ _ _ _ 2 (cs.length+1) 46 rfl (by omega) rfl hs (by omega) (by omega) (by decide) (e1.but (aj _ _ _ _) T)).mono ?_;rintro en w1 ⟨y,o,j,e,rfl,j3,r,D⟩;have b6:Hid ((e=false/\ ∃tl:L_,o=⟨tl.toArray⟩/\tys s (cs.length+1) 46 2 [] (i'+1)= .ok (tl,j))\/(e=true/\tys s (cs.length+1) 46 2 [] (i'+1)= .error j)):=D;clear D
       have l:w1.heap[wr.heap.size]?=some (.cells #[.int .i64 pv,.string ⟨#[]⟩] 203):=by
        rw[y.block _ (by rw[aU];exact ae J) (by omega)];exact cQ wB _ 0 _ _ _ J
       have h2:=hB.size;have i4:=hR.lt;have e7:=hI.lt;have b3:But (· =b) wr w1:=((((aa _ wr _).trans b8).next (aj wB wr.heap.size 0 _) (λk hk h=>by omega)).trans y);have I:ImB w1 bi (.slice ao cs.length cap) S_ S_:=a4.but b3 (λh=>hbi h.symm);have X:=ag a b3 (λg hg h=>by have:=aw a g hg;omega);have E:But (λk=>k=b\/k=bi) w w1:=hB.next b3 (λ_ _ h=>Or.inl h);have b4:wr.heap.size<w1.heap.size:=ae l;have ha:=aG j5;have j4:(dw cs)[pn*2+1]?=some (.string ⟨cs[pn].fields.toArray⟩):=ic ha;obtain⟨ga,capa,h1,g3,b1,j0⟩:=jC X j4;have i2:ao=some ⟨ga,0,none⟩:=by injection h1
       have b5:Hid (inh cs pv=cs[pn].fields):=by
        show inh cs pv=cs[pn].fields
        rw[b7.out];exact AU ha
       have a6:w1.cell? ⟨ga,pv.toNat*2+1,none⟩=some (.string ⟨cs[pn].fields.toArray⟩):=by rw[b7.out,jZ];exact g3
       clear g3;subst i2;have g5:ga<wr.heap.size:=aY a ga rfl;have h7:=ce0 l;have k3:=ce1 l;have kkf:w1.frozen? ⟨wr.heap.size,1,none⟩=false:=bG w1 _ 1 _ _ l;have S:=I.c0;have i1:=r.c2;have e4:=r.c4;have a2:=r.lt;have bilt1:=I.lt;clear k0 kf e2 h1;go_wp2_with fail;have g2:B_ w1 w1.drew:=aA _ _;refine aD (B_ w1) 13 ?_
       iterate 13 (refine aF (v:=?_) rfl g2 ?_ ?_;rotate_left;(focus (intro wS h;have q0:=(h.kc e4 a2);have q1:=(h.kc S bilt1);have q2:=(h.kc h7 b4);have q3:=(h.kc a6 b1);clear h;go_simp;try rfl));dsimp only[Act.put];try simp only[bW])
       refine au rfl ?_;intro KS hKS;go_simp;refine hKS.out _ _ nofun ?_;clear hKS KS;refine aI rfl ?_;have L:(w1.setCell ⟨wr.heap.size,1,none⟩ (.string ⟨cs[pn].fields.toArray⟩)).drew.heap[wr.heap.size]?=some (.cells #[.int .i64 pv,.string ⟨cs[pn].fields.toArray⟩] 203):=cQ w1 _ 1 _ _ _ l;have e3:RdB (w1.setCell ⟨wr.heap.size,1,none⟩ (.string ⟨cs[pn].fields.toArray⟩)).drew b s j e src bi vc vt:=r.but (w':=w1.setCell ⟨wr.heap.size,1,none⟩ (.string ⟨cs[pn].fields.toArray⟩)) (aj _ _ _ _) T;have c8:ImB (w1.setCell ⟨wr.heap.size,1,none⟩ (.string ⟨cs[pn].fields.toArray⟩)).drew bi (.slice (some ⟨ga,0,none⟩) cs.length cap) S_ S_:=I.but (w':=w1.setCell ⟨wr.heap.size,1,none⟩ (.string ⟨cs[pn].fields.toArray⟩)) (aj _ _ _ _) a5
       have g1:=ag (ag X (aj w1 wr.heap.size 1 (.string ⟨cs[pn].fields.toArray⟩)) (λg hg h=>by have:=aY a g hg;omega)) (aA (λ_=>False) _) (λ_ _ h=>h);have A:But (λk=>k=b\/k=bi) w (w1.setCell ⟨wr.heap.size,1,none⟩ (.string ⟨cs[pn].fields.toArray⟩)).drew:=(E.next (aj w1 wr.heap.size 1 _) (λk hk h=>by omega)).next (aA (λ_=>False) _) (λ_ _ h=>h.elim);have g4:cs[pn].fields.length<=8:=by have:=(f5 pn _ ha).2.2.1;omega
       have f3:(⟨cs[pn].fields.toArray⟩:ByteArray).size+o.size<=1000:=by show cs[pn].fields.toArray.size+o.size<=1000;simp;omega
       have g7:cs[pn].fields.length+o.size<=1000:=by omega
       clear h7 k3 kkf S i1 e4 a6 l r I X E y b3 b8 e1 J b4 a2 bilt1 b1 g2;generalize (w1.setCell ⟨wr.heap.size,1,none⟩ (.string ⟨cs[pn].fields.toArray⟩)).drew=w2' at*;have k0:=ce0 L;have k1:=ce1 L;have kf:w2'.frozen? ⟨wr.heap.size,1,none⟩=false:=bG w2' _ 1 _ _ L;have S:=c8.c0;have e4:=e3.c4;go_wp2_with fail;rw[show(⟨cs[pn].fields.toArray⟩:ByteArray)=⟨(inh cs pv).toArray⟩from by rw[b5.out]];obtain⟨F,hF⟩: ∃F:ByteArray,(⟨(inh cs pv).toArray⟩:ByteArray)++o=F:=⟨_,rfl⟩;rw[hF];have HF:Hid ((⟨(inh cs pv).toArray⟩:ByteArray)++o=F):=hF;clear hF;have B:(w2'.setCell ⟨wr.heap.size,1,none⟩ (.string F)).heap[wr.heap.size]?=some (.cells #[.int .i64 pv,.string F] 203):=cQ w2' _ 1 _ _ _ L
       have P:RdB (w2'.setCell ⟨wr.heap.size,1,none⟩ (.string F)) b s j e src bi vc vt:=e3.but (aj _ _ _ _) (by omega);have G:ImB (w2'.setCell ⟨wr.heap.size,1,none⟩ (.string F)) bi (.slice (some ⟨ga,0,none⟩) cs.length cap) S_ S_:=c8.but (aj _ _ _ _) (by omega);have H:=ag g1 (aj w2' wr.heap.size 1 (.string F)) (λg hg h=>by have:=aY a g hg;omega);have a0:But (λk=>k=b\/k=bi) w (w2'.setCell ⟨wr.heap.size,1,none⟩ (.string F)):=⟨A.os,A.tape,A.output,by rw[aU];exact A.size,λk hk hf=>((aj w2' wr.heap.size 1 (.string F)).block k (bK hk A.size) (by omega)).trans (A.block k hk hf)⟩
       have M:wr.heap.size<(w2'.setCell ⟨wr.heap.size,1,none⟩ (.string F)).heap.size:=ae B;clear k0 k1 kf S e4 L e3 c8 g1 A;generalize (w2'.setCell ⟨wr.heap.size,1,none⟩ (.string F))=W at*;have k0:=ce0 B;have k1:=ce1 B;have S:=G.c0;have e4:=P.c4;have g0:=G.fz 0;have bltW:=P.lt;have biltW:=G.lt;have ab:(Value.slice (some ⟨ga,0,none⟩) cs.length cap).ownBlock≠some b:=λh=>by have:=aw H _ h;omega
       have abi:(Value.slice (some ⟨ga,0,none⟩) cs.length cap).ownBlock≠some bi:=λh=>by have:=aw H _ h;omega
       have agk:(Value.slice (some ⟨ga,0,none⟩) cs.length cap).ownBlock≠some wr.heap.size:=λh=>by have:=aY a _ h;omega
       refine aD (But (λk=>(Value.slice (some ⟨ga,0,none⟩) cs.length cap).ownBlock=some k) W) 14 ?_;have e6:But (λk=>(Value.slice (some ⟨ga,0,none⟩) cs.length cap).ownBlock=some k) W W.drew:=aA _ _
       iterate 12 (refine aF (v:=?_) rfl e6 ?_ ?_;rotate_left;(focus (intro wS h;have q0:=((h.cell (p:=⟨b,4,none⟩) bltW ab).trans e4);have q1:=((h.cell (p:=⟨bi,0,none⟩) biltW abi).trans S);have q2:=((h.cell (p:=⟨wr.heap.size,0,none⟩) M agk).trans k0);have q3:=((h.cell (p:=⟨wr.heap.size,1,none⟩) M agk).trans k1);clear h;go_simp;try rfl));dsimp only[Act.put];try simp only[bW])
       refine au rfl ?_;intro KS hKS;go_simp;refine hKS.out _ _ (λ_=>(aa _ _ _).trans (aA _ _)) ?_;clear hKS KS;refine au rfl ?_;intro KS hKS
       refine step_append_lies _ (by rfl) _ _ _ (by rfl) w.heap.size 203 i0 _ 2 24 Tryz.underlying40 g6 h3 h4 h6 rfl (by omega) _ cs.length (dw cs) (by rfl) ((H.alloc _).drew)
          ⟨W.heap.size,0,none⟩ 1 1 [.int .i64 pv,.string F] (by rfl) (by rfl) (iu (cs:=#[.int .i64 pv,.string F]) (t:=203) (fr:=(0,0)) (aO W _)) (by simp[Value.oneCell'])
          (by omega) (by unfold maxLen;omega) (by omega) (by simp;omega) (W.heap.size+1) (by simp) ?_
       intro gg d Z q C i3 f0;have n:But (λk=>(Value.slice (some ⟨ga,0,none⟩) cs.length cap).ownBlock=some k) W Z:=((aa _ _ _).trans (aA _ _)).trans (a8 C);refine hKS.out _ _ (λ_=>n) ?_;clear hKS KS;have y0:=(n.cell (p:=⟨bi,0,none⟩) biltW abi).trans S;have y1:=(n.frozen (p:=⟨bi,0,none⟩) biltW abi).trans g0;refine au rfl ?_;intro KS hKS;go_simp;refine hKS.out _ _ nofun ?_;clear hKS KS;refine au rfl ?_;intro KS hKS;go_simp;refine hKS.out _ _ nofun ?_;clear hKS KS;refine au rfl ?_;intro KS hKS;go_simp;refine hKS.out _ _ nofun ?_;clear hKS KS;refine aI rfl ?_;have Q:RdB (Z.setCell ⟨bi,0,none⟩ (.slice (some ⟨gg,0,none⟩) (cs.length+1) d)) b s j e src bi vc vt:=(P.but n ab).but (aj _ _ _ _) hbi
       have b9:ImB (Z.setCell ⟨bi,0,none⟩ (.slice (some ⟨gg,0,none⟩) (cs.length+1) d)) bi (.slice (some ⟨gg,0,none⟩) (cs.length+1) d) S_ S_:=(G.but n abi).set0 _;have j1:=aw q gg rfl;have c9:=ag q (aj Z bi 0 (.slice (some ⟨gg,0,none⟩) (cs.length+1) d)) (λg hg h=>by have:=aw q g hg;omega)
       have a3:But (λk=>k=b\/k=bi) w (Z.setCell ⟨bi,0,none⟩ (.slice (some ⟨gg,0,none⟩) (cs.length+1) d)):=
        (a0.next n (λk hk h=>absurd (aw H k h) (by omega))).next (aj _ _ _ _) (λ_ _ h=>Or.inr h)
       clear y0 y1 S e4 g0 k0 k1 n C;generalize (Z.setCell ⟨bi,0,none⟩ (.slice (some ⟨gg,0,none⟩) (cs.length+1) d))=W3 at*;go_wp2_with (go_at_call 127;refine(bO b s j e src bi vc vt _ hs Q).mono ?_;rintro en w' ⟨rfl,n3,rfl⟩);obtain⟨rfl,tl,rfl,ht⟩ | ⟨rfl,ht⟩:=b6.out
       .go_roundg (f+1)
        case measure=>omega
        case rel=>
         refine⟨j,false,rfl,a3.next (aH (λ_=>False) _ _) (λ_ _ h=>h.elim),Q.drewN _,Or.inl ⟨rfl,f,cs++ [⟨pv,inh cs pv++tl⟩],_,rfl,by simp;omega,nw f5 x.out ht,?_,b9,?_⟩⟩
         .rw[<-HT.out,dR,if_neg a1.out,x.out];simp only[ht]
         .rw[mJ,aN];have hF:=HF.out;rw[show(⟨(inh cs pv++tl).toArray⟩:ByteArray)=F from by rw[<-hF];exact(db _ _).symm];exact c9
       .go_roundg 0
        case measure=>omega
        case rel=>
         refine⟨j,true,rfl,a3.next (aH (λ_=>False) _ _) (λ_ _ h=>h.elim),Q.drewN _,Or.inr ⟨rfl,rfl,?_⟩⟩;rw[<-HT.out,dR,if_neg a1.out,x.out];simp only[ht]
  .go_wp2_with fail;go_end0;exact⟨rfl,hB,z⟩
end
end
end Go.Proofs.YtpfkkmacakjmbaaGreatDoor
