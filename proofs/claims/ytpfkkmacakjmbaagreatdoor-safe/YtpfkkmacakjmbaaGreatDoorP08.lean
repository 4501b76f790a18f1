import Derived.Test.YtpfkkmacakjmbaaGreatDoorP00
set_option maxRecDepth 100000
set_option maxHeartbeats 6400000
set_option linter.all false
namespace Go.Proofs.YtpfkkmacakjmbaaGreatDoor
open Proofs.Tryz
section
open Go Go.RowKit Sp
structure RdV where
 bods:Value
 hc:Value
 hm:Value
 ha:Value
 hl:Value
 hi:Value
 main:Bool
def XrB (w:World) (b:Nat) (s:ByteArray) (i:Nat) (bad:Bool) (v0 v1:Value) (v2:RdV):Prop:=
 w.heap[b]?=some (.cells #[v0,v1,v2.bods,v2.hc,v2.hm,v2.ha,v2.hl,v2.hi,.int .i64 i,.bool bad,.bool v2.main,.string s] 250)
section
variable {w:World} {b:Nat} {s:ByteArray} {i:Nat} {bad:Bool} {v0 v1:Value} {v2:RdV}
theorem XrB.lt (h:XrB w b s i bad v0 v1 v2):b<w.heap.size:=ae h
theorem XrB.c0 (h:XrB w b s i bad v0 v1 v2):w.cell? ⟨b,0,none⟩=some v0:=ce0 h
theorem XrB.c1 (h:XrB w b s i bad v0 v1 v2):w.cell? ⟨b,1,none⟩=some v1:=ce1 h
theorem XrB.c2 (h:XrB w b s i bad v0 v1 v2):w.cell? ⟨b,2,none⟩=some v2.bods:=ce2 h
theorem XrB.d0 (h:XrB w b s i bad v0 v1 v2):w.cell? ⟨b,3,none⟩=some v2.hc:=ce3 h
theorem XrB.d1 (h:XrB w b s i bad v0 v1 v2):w.cell? ⟨b,4,none⟩=some v2.hm:=ce4 h
theorem XrB.d2 (h:XrB w b s i bad v0 v1 v2):w.cell? ⟨b,5,none⟩=some v2.ha:=ce5 h
theorem XrB.d3 (h:XrB w b s i bad v0 v1 v2):w.cell? ⟨b,6,none⟩=some v2.hl:=ce6 h
theorem XrB.d4 (h:XrB w b s i bad v0 v1 v2):w.cell? ⟨b,7,none⟩=some v2.hi:=ce7 h
theorem XrB.c3 (h:XrB w b s i bad v0 v1 v2):w.cell? ⟨b,8,none⟩=some (.int .i64 i):=ce8 h
theorem XrB.c4 (h:XrB w b s i bad v0 v1 v2):w.cell? ⟨b,9,none⟩=some (.bool bad):=ce9 h
theorem XrB.d5 (h:XrB w b s i bad v0 v1 v2):w.cell? ⟨b,10,none⟩=some (.bool v2.main):=D3 h
theorem XrB.c5 (h:XrB w b s i bad v0 v1 v2):w.cell? ⟨b,11,none⟩=some (.string s):=by rw[aX w b 11 _ _ (0,0) h];rfl
theorem XrB.fz (h:XrB w b s i bad v0 v1 v2) (j:Nat):w.frozen? ⟨b,j,none⟩=false:=b7 w b j _ _ h
theorem XrB.but {F:Nat->Prop} {w':World} (h:XrB w b s i bad v0 v1 v2) (hb:But F w w') (hf: ¬F b):XrB w' b s i bad v0 v1 v2:=(hb.block b h.lt hf).trans h
theorem XrB.set0 (h:XrB w b s i bad v0 v1 v2) (u:Value):XrB (w.setCell ⟨b,0,none⟩ u) b s i bad u v1 v2:=bG w b 0 _ _ _ h
theorem XrB.set1 (h:XrB w b s i bad v0 v1 v2) (u:Value):XrB (w.setCell ⟨b,1,none⟩ u) b s i bad v0 u v2:=bG w b 1 _ _ _ h
theorem XrB.set2 (h:XrB w b s i bad v0 v1 v2) (u:Value):XrB (w.setCell ⟨b,2,none⟩ u) b s i bad v0 v1 ⟨u,v2.hc,v2.hm,v2.ha,v2.hl,v2.hi,v2.main⟩:=bG w b 2 _ _ _ h
theorem XrB.setB (h:XrB w b s i bad v0 v1 v2) (x0 x1 x2 x3 x4:Value):XrB (((((w.setCell ⟨b,3,none⟩ x0).setCell ⟨b,4,none⟩ x1).setCell ⟨b,5,none⟩ x2).setCell ⟨b,6,none⟩ x3).setCell ⟨b,7,none⟩ x4) b s i bad v0 v1 ⟨v2.bods,x0,x1,x2,x3,x4,v2.main⟩:=
 bG _ b 7 _ _ _ (bG _ b 6 _ _ _ (bG _ b 5 _ _ _ (bG _ b 4 _ _ _ (bG w b 3 _ _ _ h))))
theorem XrB.setI (h:XrB w b s i bad v0 v1 v2) (u:Value):XrB (w.setCell ⟨b,7,none⟩ u) b s i bad v0 v1 ⟨v2.bods,v2.hc,v2.hm,v2.ha,v2.hl,u,v2.main⟩:=bG w b 7 _ _ _ h
theorem XrB.setM (h:XrB w b s i bad v0 v1 v2) (d:Bool):XrB (w.setCell ⟨b,10,none⟩ (.bool d)) b s i bad v0 v1 ⟨v2.bods,v2.hc,v2.hm,v2.ha,v2.hl,v2.hi,d⟩:=bG w b 10 _ _ _ h
theorem XrB.set3 (h:XrB w b s i bad v0 v1 v2) (j:Nat):XrB (w.setCell ⟨b,8,none⟩ (.int .i64 j)) b s j bad v0 v1 v2:=bG w b 8 _ _ _ h
theorem XrB.set4 (h:XrB w b s i bad v0 v1 v2) (d:Bool):XrB (w.setCell ⟨b,9,none⟩ (.bool d)) b s i d v0 v1 v2:=bG w b 9 _ _ _ h
theorem XrB.drewN (h:XrB w b s i bad v0 v1 v2) (n:Nat):XrB (w.drewN n) b s i bad v0 v1 v2:=h
end
section
variable (b:Nat) (s:ByteArray) (i:Nat) (bad:Bool) (v0 v1:Value) (v2:RdV) (w:World)
theorem gO (hR:XrB w b s i bad v0 v1 v2):
  Calls prog 214 #[.pointer (some ⟨b,0,none⟩)] w λe w'=>e= .returned (.int .u8 (pk s i).toNat)/\ ∃n,w'=w.drewN n:=by
 have h3:=hR.c3;have h5:=hR.c5;clear hR;have h0: ¬(i:Int)<0:=by omega
 by_cases hi:(i:Int)<(s.size:Int)
 .have hp:pk s i=s[i]'(by omega):=by unfold pk;rw[dif_pos (by omega)]
  rw[hp];clear hp
  go_in
  go_wp2
  go_quiet (fail)
  go_wp2
  go_quiet (fail)
  go_wp2
  go_ret;exact⟨rfl,_,World.drewN_drewN _ _ _⟩
 .have hp:pk s i=0:=by unfold pk;rw[dif_neg (by omega)]
  rw[hp];clear hp
  go_in
  go_wp2
  go_quiet (fail)
  go_wp2
  go_ret;exact⟨rfl,_,rfl⟩
theorem ji (j:Nat) (hR:XrB w b s i true v0 v1 v2):
  Calls prog 201 #[.pointer (some ⟨b,0,none⟩),.int .i64 j] w λe w'=>e= .returned (.tuple #[])/\But (· =b) w w'/\XrB w' b s i true v0 v1 v2:=by
 have h4:=hR.c4
 go_in
 go_wp2
 go_end0;exact⟨rfl,But.refl _ _,hR⟩
theorem fF (j:Nat) (hR:XrB w b s i false v0 v1 v2):
  Calls prog 201 #[.pointer (some ⟨b,0,none⟩),.int .i64 j] w λe w'=>e= .returned (.tuple #[])/\But (· =b) w w'/\XrB w' b s j true v0 v1 v2:=by
 have h4:=hR.c4;have h3:=hR.c3;have f3:=hR.fz 8;have f4:=hR.fz 9
 go_in
 go_wp2
 go_end0;exact⟨rfl,(au _ _ _ _).trans (au _ _ _ _),(hR.set4 true).set3 j⟩
theorem dt (c:UInt8) (hR:XrB w b s i bad v0 v1 v2):
  Calls prog 163 #[.pointer (some ⟨b,0,none⟩),.int .u8 c.toNat] w λe w'=>e= .returned (.bool (!bad&& !decide (pk s i=c)))/\ ∃n,w'=w.drewN n:=by
 have h4:=hR.c4
 cases bad with
 |true=>
  go_in
  go_wp2_with fail;exact du (.bool false) results163 rfl rfl ⟨rfl,0,rfl⟩
 |false=>
  by_cases hc:pk s i=c
  .have e:(((pk s i).toNat:Int)==(c.toNat:Int))=true:=by rw[hc];simp
   have e':(((pk s i).toNat:Int)!=(c.toNat:Int))=false:=by simp[bne,e]
   have ev:(!false&& !decide (pk s i=c))=false:=by simp[hc]
   rw[ev];clear ev hc
   go_in
   go_wp2_with fail;refine(gO b s i false v0 v1 v2 _ hR).mono ?_;rintro en w' ⟨rfl,n,rfl⟩;go_wp2_with fail;exact cW (v:= .bool false) (by simp[results,results163,go_sem,e,e']) rfl ⟨rfl,n,rfl⟩
  .have e:(((pk s i).toNat:Int)==(c.toNat:Int))=false:=by rw[eA];intro h;exact hc (bS (by omega))
   have e':(((pk s i).toNat:Int)!=(c.toNat:Int))=true:=by simp[bne,e]
   have ev:(!false&& !decide (pk s i=c))=true:=by simp[hc]
   rw[ev];clear ev hc
   go_in
   go_wp2_with fail;refine(gO b s i false v0 v1 v2 _ hR).mono ?_;rintro en w' ⟨rfl,n,rfl⟩;go_wp2_with fail;exact cW (v:= .bool true) (by simp[results,results163,go_sem,e,e']) rfl ⟨rfl,n,rfl⟩
def tbP (s:ByteArray) (i:Nat) (bad:Bool):UInt8×Nat×Bool:=
 if bad=true\/s.size<=i then(0,i,true)else(pk s i,i+1,false)
theorem bL (hs:s.size<=2000) (hR:XrB w b s i bad v0 v1 v2):
  Calls prog 217 #[.pointer (some ⟨b,0,none⟩)] w λe w'=>e= .returned (.int .u8 (tbP s i bad).1.toNat)/\But (· =b) w w'/\XrB w' b s (tbP s i bad).2.1 (tbP s i bad).2.2 v0 v1 v2:=by
 have h3:=hR.c3;have h4:=hR.c4;have h5:=hR.c5;have f3:=hR.fz 8;have f4:=hR.fz 9;have blt:=hR.lt
 by_cases hi:(i:Int)<(s.size:Int)
 .cases bad with
  |true=>
   rw[show tbP s i true=(0,i,true)from by simp[tbP]]
   go_in
   go_wp2
   go_quiet (fail)
   go_wp2
   go_ret;exact⟨rfl,aK _ _ _,hR.drewN _⟩
  |false=>
   rw[show tbP s i false=(pk s i,i+1,false)from by unfold tbP;rw[if_neg (by simp;omega)]]
   go_in
   go_wp2
   go_quiet (fail)
   go_wp2_with fail;refine(gO b s i false v0 v1 v2 _ (hR.drewN _)).mono ?_;rintro en w' ⟨rfl,n,rfl⟩;go_wp2_with fail;go_ret;exact⟨rfl,(aK _ _ _).trans (au _ _ _ _),by simpa using(hR.drewN _).set3 (i+1)⟩
 .rw[show tbP s i bad=(0,i,true)from by unfold tbP;rw[if_pos (by right;omega)]]
  go_in
  go_wp2
  go_quiet (fail)
  go_wp2
  go_ret;exact⟨rfl,(aK _ _ _).trans (au _ _ _ _),(hR.drewN _).set4 true⟩
end
def tkP (s:ByteArray) (c:UInt8) (i:Nat) (bad:Bool):Nat×Bool:=if bad=false/\pk s i=c then(i+1,false)else(i,true)
section
variable (b:Nat) (s:ByteArray) (i:Nat) (bad:Bool) (v0 v1:Value) (v2:RdV) (w:World)
theorem kX {s:ByteArray} {i:Nat} {bad:Bool} (h:bad=true\/s.size<=i):tbP s i bad=(0,i,true):=by unfold tbP;rw[if_pos h]
theorem jx {s:ByteArray} {i:Nat} (h:i<s.size):tbP s i false=(pk s i,i+1,false):=by unfold tbP;rw[if_neg (by simp;omega)]
theorem pu {s:ByteArray} {i:Nat} (h:s.size<=i):pk s i=0:=by unfold pk;rw[dif_neg (by omega)]
theorem eu (c:UInt8) (hc0:0<c.toNat) (hs:s.size<=2000) (hR:XrB w b s i bad v0 v1 v2):
  Calls prog 165 #[.pointer (some ⟨b,0,none⟩),.int .u8 c.toNat] w λe w'=>e= .returned (.tuple #[])/\But (· =b) w w'/\XrB w' b s (tkP s c i bad).1 (tkP s c i bad).2 v0 v1 v2:=by
 have h3:=hR.c3
 by_cases hz:bad=true\/s.size<=i
 .have a5:tkP s c i bad=(i,true):=by
   unfold tkP;rw[if_neg];rintro⟨h1,h2⟩;obtain h|h:=hz
   .rw[h]at h1;cases h1
   .rw[pu h]at h2;subst h2;simp at hc0
  rw[a5];have hb:=bL b s i bad v0 v1 v2 w hs hR;rw[kX hz]at hb;have HB:=hid hb;clear hb a5;have e:((0:Int)==(c.toNat:Int))=false:=by rw[eA];omega
  have e':((0:Int)!=(c.toNat:Int))=true:=by simp[bne,e]
  have e2: ¬((0:Int)=(c.toNat:Int)):=by omega
  go_in
  go_wp2_with fail;refine HB.out.mono ?_;rintro en w1 ⟨rfl,a0,a1⟩;go_wp2_with fail;refine(ji b s i v0 v1 v2 w1 i a1).mono ?_;rintro en w2 ⟨rfl,a2,a3⟩;go_wp2_with fail;go_end0;exact⟨rfl,a0.trans a2,a3⟩
 .have a4:=not_or.1 hz;have a6:bad=false:=by simpa using a4.1
  subst a6;have hb:=bL b s i false v0 v1 v2 w hs hR;rw[jx (by omega)]at hb;have HB:=hid hb;clear hb
  by_cases hc:pk s i=c
  .rw[show tkP s c i false=(i+1,false)from by unfold tkP;rw[if_pos ⟨rfl,hc⟩]];have e:(((pk s i).toNat:Int)==(c.toNat:Int))=true:=by rw[hc];simp
   have e':(((pk s i).toNat:Int)!=(c.toNat:Int))=false:=by simp[bne,e]
   have e2:(((pk s i).toNat:Int)=(c.toNat:Int)):=by rw[hc]
   have E2:=hid e2;clear hc e2 hz a4
   go_in
   go_wp2_with fail;refine HB.out.mono ?_;rintro en w1 ⟨rfl,a0,a1⟩;go_wp2_with fail;go_end0;exact⟨rfl,a0,a1⟩
  .rw[show tkP s c i false=(i,true)from by unfold tkP;rw[if_neg (λh=>hc h.2)]];have e:(((pk s i).toNat:Int)==(c.toNat:Int))=false:=by rw[eA];intro h;exact hc (bS (by omega))
   have e':(((pk s i).toNat:Int)!=(c.toNat:Int))=true:=by simp[bne,e]
   have e2: ¬(((pk s i).toNat:Int)=(c.toNat:Int)):=by simpa using e
   clear hc hz a4
   go_in
   go_wp2_with fail;refine HB.out.mono ?_;rintro en w1 ⟨rfl,a0,a1⟩;go_wp2_with fail;refine(fF b s (i+1) v0 v1 v2 w1 i a1).mono ?_;rintro en w2 ⟨rfl,a2,a3⟩;go_wp2_with fail;go_end0;exact⟨rfl,a0.trans a2,a3⟩
def dgX (s:ByteArray) (n i:Nat) (bad:Bool):Nat×Nat×Bool:=if bad=false/\fd n (pk s i)=true then((pk s i).toNat-48,i+1,false)else(0,i,true)
theorem dO (n:Nat) (hn:n<=100) (hs:s.size<=2000) (hR:XrB w b s i bad v0 v1 v2):
  Calls prog 220 #[.pointer (some ⟨b,0,none⟩),.int .i64 n] w λe w'=>e= .returned (.int .i64 (dgX s n i bad).1)/\But (· =b) w w'/\XrB w' b s (dgX s n i bad).2.1 (dgX s n i bad).2.2 v0 v1 v2:=by
 have h3:=hR.c3
 by_cases hz:bad=true\/s.size<=i
 .have b0:dgX s n i bad=(0,i,true):=by
   unfold dgX;rw[if_neg];rintro⟨h1,h2⟩;obtain h|h:=hz
   .rw[h]at h1;cases h1
   .rw[pu h]at h2;simp[fd]at h2
  rw[b0];have hb:=bL b s i bad v0 v1 v2 w hs hR;rw[kX hz]at hb;have HB:=hid hb;clear hb b0
  go_in
  go_wp2_with fail;refine HB.out.mono ?_;rintro en w1 ⟨rfl,a0,a4⟩;go_wp2_with fail;refine(ji b s i v0 v1 v2 w1 i a4).mono ?_;rintro en w2 ⟨rfl,a5,a6⟩;go_wp2_with fail;go_ret;exact⟨rfl,a0.trans a5,a6⟩
 .have a8:=not_or.1 hz;have b1:bad=false:=by simpa using a8.1
  subst b1;have hb:=bL b s i false v0 v1 v2 w hs hR;rw[jx (by omega)]at hb;have HB:=hid hb;clear hb
  by_cases hd:fd n (pk s i)=true
  .rw[show dgX s n i false=((pk s i).toNat-48,i+1,false)from by unfold dgX;rw[if_pos ⟨rfl,hd⟩]];simp only[fd,et,ed]at hd;revert HB;generalize pk s i=c at*;intro HB;have a1: ¬((c.toNat:Int)<48):=by omega
   have a2: ¬(57<(c.toNat:Int)):=by omega
   have a7:IntKind.u8.wrap ((c.toNat:Int)-48)=((c.toNat-48:Nat):Int):=by
    rw[IntWalk.u8_in _ (by omega)];omega
   have a3: ¬((n:Int)<=((c.toNat-48:Nat):Int)):=by omega
   clear hz a8 hd
   go_in
   go_wp2_with fail;refine HB.out.mono ?_;rintro en w1 ⟨rfl,a0,a4⟩;go_wp2_with fail;go_ret;exact⟨rfl,a0,a4⟩
  .rw[show dgX s n i false=(0,i,true)from by unfold dgX;rw[if_neg (λh=>hd h.2)]];simp only[fd,et,ed]at hd;revert HB;generalize pk s i=c at*;intro HB;clear hz a8
   by_cases a1:(c.toNat:Int)<48
   .clear hd
    go_in
    go_wp2_with fail;refine HB.out.mono ?_;rintro en w1 ⟨rfl,a0,a4⟩;go_wp2_with fail;refine(fF b s (i+1) v0 v1 v2 w1 i a4).mono ?_;rintro en w2 ⟨rfl,a5,a6⟩;go_wp2_with fail;go_ret;exact⟨rfl,a0.trans a5,a6⟩
   .by_cases a2:57<(c.toNat:Int)
    .clear hd
     go_in
     go_wp2_with fail;refine HB.out.mono ?_;rintro en w1 ⟨rfl,a0,a4⟩;go_wp2_with fail;refine(fF b s (i+1) v0 v1 v2 w1 i a4).mono ?_;rintro en w2 ⟨rfl,a5,a6⟩;go_wp2_with fail;go_ret;exact⟨rfl,a0.trans a5,a6⟩
    .have a7:IntKind.u8.wrap ((c.toNat:Int)-48)=((c.toNat-48:Nat):Int):=by
      rw[IntWalk.u8_in _ (by omega)];omega
     have a3:(n:Int)<=((c.toNat-48:Nat):Int):=by omega
     clear hd
     go_in
     go_wp2_with fail;refine HB.out.mono ?_;rintro en w1 ⟨rfl,a0,a4⟩;go_wp2_with fail;refine(fF b s (i+1) v0 v1 v2 w1 i a4).mono ?_;rintro en w2 ⟨rfl,a5,a6⟩;go_wp2_with fail;go_ret;exact⟨rfl,a0.trans a5,a6⟩
end
def ltX (s:ByteArray) (n i:Nat) (bad:Bool):UInt8×Nat×Bool:=if bad=false/\aN n (pk s i)=true then(pk s i,i+1,false)else(45,i,true)
def tyX (s:ByteArray) (n i:Nat) (bad:Bool):UInt8×Nat×Bool:=if bad=false/\cZ n (pk s i)=true then(pk s i,i+1,false)else(if(pk s i).toNat=105 then 0 else 45,i,true)
def paX (s:ByteArray) (n i:Nat) (bad:Bool):UInt8×Nat×Bool:=if bad=false/\((pk s i).toNat=45\/aN n (pk s i)=true)then(pk s i,i+1,false)else(if(pk s i).toNat=45 then 0 else 45,i,true)
section
variable (b:Nat) (s:ByteArray) (i:Nat) (bad:Bool) (v0 v1:Value) (v2:RdV) (w:World)
theorem om (n:Nat) (hn:n<=100) (hs:s.size<=2000) (hR:XrB w b s i bad v0 v1 v2):
  Calls prog 218 #[.pointer (some ⟨b,0,none⟩),.int .i64 n] w λe w'=>e= .returned (.int .u8 (ltX s n i bad).1.toNat)/\But (· =b) w w'/\XrB w' b s (ltX s n i bad).2.1 (ltX s n i bad).2.2 v0 v1 v2:=by
 have h3:=hR.c3
 by_cases hz:bad=true\/s.size<=i
 .have b0:ltX s n i bad=(45,i,true):=by
   unfold ltX;rw[if_neg];rintro⟨h1,h2⟩;obtain h|h:=hz
   .rw[h]at h1;cases h1
   .rw[pu h]at h2;simp[aN]at h2
  rw[b0];have hb:=bL b s i bad v0 v1 v2 w hs hR;rw[kX hz]at hb;have HB:=hid hb;clear hb b0
  go_in
  go_wp2_with fail;refine HB.out.mono ?_;rintro en w1 ⟨rfl,a0,a2⟩;go_wp2_with fail;refine(ji b s i v0 v1 v2 w1 i a2).mono ?_;rintro en w2 ⟨rfl,a4,a5⟩;go_wp2_with fail;go_ret;exact⟨rfl,a0.trans a4,a5⟩
 .have a8:=not_or.1 hz;have b1:bad=false:=by simpa using a8.1
  subst b1;have hb:=bL b s i false v0 v1 v2 w hs hR;rw[jx (by omega)]at hb;have HB:=hid hb;clear hb
  by_cases hd:aN n (pk s i)=true
  .rw[show ltX s n i false=(pk s i,i+1,false)from by unfold ltX;rw[if_pos ⟨rfl,hd⟩]];simp only[aN,et,ed]at hd;revert HB;generalize pk s i=c at*;intro HB;have a6:c.toNat<256:=c.toNat_lt;have a1: ¬((c.toNat:Int)<65):=by omega
   have a7:IntKind.u8.wrap ((c.toNat:Int)-65)=((c.toNat-65:Nat):Int):=by
    rw[IntWalk.u8_in _ (by omega)];omega
   have a3: ¬((n:Int)<=((c.toNat-65:Nat):Int)):=by omega
   clear hz a8 hd
   go_in
   go_wp2_with fail;refine HB.out.mono ?_;rintro en w1 ⟨rfl,a0,a2⟩;go_wp2_with fail;go_ret;exact⟨rfl,a0,a2⟩
  .rw[show ltX s n i false=(45,i,true)from by unfold ltX;rw[if_neg (λh=>hd h.2)]];simp only[aN,et,ed]at hd;revert HB;generalize pk s i=c at*;intro HB;have a6:c.toNat<256:=c.toNat_lt;clear hz a8
   by_cases a1:(c.toNat:Int)<65
   .clear hd
    go_in
    go_wp2_with fail;refine HB.out.mono ?_;rintro en w1 ⟨rfl,a0,a2⟩;go_wp2_with fail;refine(fF b s (i+1) v0 v1 v2 w1 i a2).mono ?_;rintro en w2 ⟨rfl,a4,a5⟩;go_wp2_with fail;go_ret;exact⟨rfl,a0.trans a4,a5⟩
   .have a7:IntKind.u8.wrap ((c.toNat:Int)-65)=((c.toNat-65:Nat):Int):=by
     rw[IntWalk.u8_in _ (by omega)];omega
    have a3:(n:Int)<=((c.toNat-65:Nat):Int):=by omega
    clear hd
    go_in
    go_wp2_with fail;refine HB.out.mono ?_;rintro en w1 ⟨rfl,a0,a2⟩;go_wp2_with fail;refine(fF b s (i+1) v0 v1 v2 w1 i a2).mono ?_;rintro en w2 ⟨rfl,a4,a5⟩;go_wp2_with fail;go_ret;exact⟨rfl,a0.trans a4,a5⟩
theorem iS (n cap:Nat) (ao:Option Addr) (hn:n<=100) (hs:s.size<=2000) (hR:XrB w b s i bad (.slice ao n cap) v1 v2):
  Calls prog 219 #[.pointer (some ⟨b,0,none⟩)] w λe w'=>e= .returned (.int .u8 (ltX s n i bad).1.toNat)/\But (· =b) w w'/\XrB w' b s (ltX s n i bad).2.1 (ltX s n i bad).2.2 (.slice ao n cap) v1 v2:=by
 have h0:=hR.c0
 go_in
 go_wp2_with fail;refine(om b s i bad (.slice ao n cap) v1 v2 w n hn hs hR).mono ?_;rintro en w2 ⟨rfl,a0,a1⟩;go_wp2_with fail;go_ret;exact⟨rfl,a0,a1⟩
theorem nN (n:Nat) (hn:n<=4) (hs:s.size<=2000) (hR:XrB w b s i bad v0 v1 v2):
  Calls prog 166 #[.pointer (some ⟨b,0,none⟩),.int .i64 n] w λe w'=>e= .returned (.int .u8 (tyX s n i bad).1.toNat)/\But (· =b) w w'/\XrB w' b s (tyX s n i bad).2.1 (tyX s n i bad).2.2 v0 v1 v2:=by
 by_cases h105:(pk s i).toNat=105
 .have e:(((pk s i).toNat:Int)==105)=true:=by rw[beq_iff_eq];omega
  have a3:i<s.size:=iq (by omega)
  have a0:tyX s n i bad=tbP s i bad:=by
   unfold tyX tbP
   cases bad with
   |true=>simp[h105]
   |false=>rw[if_pos ⟨rfl,by simp[cZ,h105]⟩,if_neg (by simp;omega)]
  rw[a0];clear h105 a0
  go_in
  go_wp2_with fail;refine(gO b s i bad v0 v1 v2 w hR).mono ?_;rintro en w1 ⟨rfl,m,rfl⟩;go_wp2_with fail;refine(bL b s i bad v0 v1 v2 _ hs (hR.drewN m)).mono ?_;rintro en w2 ⟨rfl,a1,a2⟩;go_wp2_with fail;go_ret;exact⟨rfl,(aK _ _ _).trans a1,a2⟩
 .have e:(((pk s i).toNat:Int)==105)=false:=by rw[eA];omega
  have a0:tyX s n i bad=ltX s n i bad:=by
   unfold tyX ltX;simp[cZ,h105]
  rw[a0];clear h105 a0
  go_in
  go_wp2_with fail;refine(gO b s i bad v0 v1 v2 w hR).mono ?_;rintro en w1 ⟨rfl,m,rfl⟩;go_wp2_with fail;refine(om b s i bad v0 v1 v2 _ n (by omega) hs (hR.drewN m)).mono ?_;rintro en w2 ⟨rfl,a1,a2⟩;go_wp2_with fail;go_ret;exact⟨rfl,(aK _ _ _).trans a1,a2⟩
theorem tZ (n cap:Nat) (ao:Option Addr) (hn:n<=4) (hs:s.size<=2000) (hR:XrB w b s i bad (.slice ao n cap) v1 v2):
  Calls prog 215 #[.pointer (some ⟨b,0,none⟩)] w λe w'=>e= .returned (.int .u8 (paX s n i bad).1.toNat)/\But (· =b) w w'/\XrB w' b s (paX s n i bad).2.1 (paX s n i bad).2.2 (.slice ao n cap) v1 v2:=by
 by_cases h45:(pk s i).toNat=45
 .have e:(((pk s i).toNat:Int)==45)=true:=by rw[beq_iff_eq];omega
  have a3:i<s.size:=iq (by omega)
  have a0:paX s n i bad=tbP s i bad:=by
   unfold paX tbP
   cases bad with
   |true=>simp[h45]
   |false=>rw[if_pos ⟨rfl,Or.inl h45⟩,if_neg (by simp;omega)]
  rw[a0];clear h45 a0
  go_in
  go_wp2_with fail;refine(gO b s i bad (.slice ao n cap) v1 v2 w hR).mono ?_;rintro en w1 ⟨rfl,m,rfl⟩;go_wp2_with fail;refine(bL b s i bad (.slice ao n cap) v1 v2 _ hs (hR.drewN m)).mono ?_;rintro en w2 ⟨rfl,a1,a2⟩;go_wp2_with fail;go_ret;exact⟨rfl,(aK _ _ _).trans a1,a2⟩
 .have e:(((pk s i).toNat:Int)==45)=false:=by rw[eA];omega
  have a0:paX s n i bad=ltX s n i bad:=by
   unfold paX ltX;simp[h45]
  rw[a0];clear h45 a0
  go_in
  go_wp2_with fail;refine(gO b s i bad (.slice ao n cap) v1 v2 w hR).mono ?_;rintro en w1 ⟨rfl,m,rfl⟩;go_wp2_with fail;refine(iS b s i bad v1 v2 _ n cap ao (by omega) hs (hR.drewN m)).mono ?_;rintro en w2 ⟨rfl,a1,a2⟩;go_wp2_with fail;go_ret;exact⟨rfl,(aK _ _ _).trans a1,a2⟩
end
end
section
open Go Go.RowKit Sp
attribute [local go_sem ↓] dG dH
def aP (l:L_):List Value:=l.map λc=> .int .u8 c.toNat
theorem ke:(prog.info? 5).map (λi=>(i.zero,i.size,i.bytes))=some (some (.int .u8 0),1,1):=by kernel_rfl
def BtB (w:World) (base:Nat) (v:Value) (l:L_):Prop:=w.ownsRow base 5 1 v l.length (aP l)
theorem BtB.empty (w:World):BtB (w.alloc (.cells #[] 5)) w.heap.size (.slice (some ⟨w.heap.size,0,none⟩) 0 0) []:=by
 refine⟨rfl,Or.inr ⟨w.heap.size,0,#[],rfl,b8 _,aO _ _,b8 _,by unfold maxLen;omega,rfl,rfl⟩⟩
theorem BtB.but {F:Nat->Prop} {w w':World} {base:Nat} {v:Value} {l:L_} (h:BtB w base v l) (hb:But F w w') (hf: ∀g,v.ownBlock=some g-> ¬F g):BtB w' base v l:=aj h hb hf
def yn (s:ByteArray) (n:Nat) (e:UInt8) (most:Nat) (R:Except Nat (L_×Nat)) (mm:Nat) (t:L_) (j:Nat) (bad:Bool):Prop:=
 (bad=false/\t.length+mm=most/\tys s n e mm t j=R)\/(bad=true/\mm=0/\R= .error j)
theorem yn.fin {s:ByteArray} {n:Nat} {e:UInt8} {most:Nat} {R:Except Nat (L_×Nat)} {mm:Nat} {t:L_} {j:Nat} {bad:Bool} (h:yn s n e most R mm t j bad) (hx:bad=true\/ ¬t.length<most\/pk s j=e):
  ((tkP s e j bad).2=false/\R= .ok (t,(tkP s e j bad).1))\/((tkP s e j bad).2=true/\R= .error (tkP s e j bad).1):=by
 obtain⟨rfl,h1,h2⟩ | ⟨rfl,h1,h2⟩:=h
 .by_cases hp:pk s j=e
  .left
   rw[show tkP s e j false=(j+1,false)from by unfold tkP;rw[if_pos ⟨rfl,hp⟩]];refine⟨rfl,?_⟩;rw[<-h2]
   cases mm<;>simp[tys,hp]
  .right
   rw[show tkP s e j false=(j,true)from by unfold tkP;rw[if_neg (λh=>hp h.2)]];refine⟨rfl,?_⟩
   have:mm=0:=by
    obtain h|h|h:=hx
    .cases h
    .omega
    .exact absurd h hp
   subst this;rw[<-h2];simp[tys,hp]
 .right
  rw[show tkP s e j true=(j,true)from by unfold tkP;rw[if_neg (by simp)]];exact⟨rfl,h2⟩
theorem yn.next {s:ByteArray} {n:Nat} {e:UInt8} {most:Nat} {R:Except Nat (L_×Nat)} {mm:Nat} {t:L_} {j:Nat} (h:yn s n e most R mm t j false) (hl:t.length<most) (hp:pk s j≠e):
  ∃m',m'<mm/\yn s n e most R m' (t++ [(tyX s n j false).1]) (tyX s n j false).2.1 (tyX s n j false).2.2:=by
 obtain⟨_,h1,h2⟩ | ⟨h,_⟩:=h
 .obtain⟨f,rfl⟩: ∃f,mm=f+1:=⟨mm-1,by omega⟩;simp only[tys,if_neg hp]at h2
  by_cases ht:cZ n (pk s j)=true
  .rw[show tyX s n j false=(pk s j,j+1,false)from by unfold tyX;rw[if_pos ⟨rfl,ht⟩]];rw[if_pos ht]at h2;exact⟨f,by omega,Or.inl ⟨rfl,by simp;omega,h2⟩⟩
  .rw[show tyX s n j false=(if(pk s j).toNat=105 then 0 else 45,j,true)from by unfold tyX;rw[if_neg (λh=>ht h.2)]];rw[if_neg ht]at h2;exact⟨0,by omega,Or.inr ⟨rfl,rfl,h2.symm⟩⟩
 .cases h
section
variable (b:Nat) (s:ByteArray) (i:Nat) (bad:Bool) (v0 v1:Value) (v2:RdV) (w:World)
theorem vO (most n:Nat) (e:UInt8) (he:0<e.toNat) (hm:most<=10) (hn:n<=4) (hs:s.size<=2000) (hR:XrB w b s i false v0 v1 v2):
  Calls prog 216 #[.pointer (some ⟨b,0,none⟩),.int .i64 most,.int .i64 n,.int .u8 e.toNat] w λen w'=>But (· =b) w w'/\ ∃v l j bad',en= .returned v/\XrB w' b s j bad' v0 v1 v2/\BtB w' w.heap.size v l/\l.length<=most/\
   ((bad'=false/\tys s n e most [] i= .ok (l,j))\/(bad'=true/\tys s n e most [] i= .error j)):=by
 obtain⟨R,d6⟩: ∃R,tys s n e most [] i=R:=⟨_,rfl⟩;rw[d6];have e5:=hid d6;clear d6;obtain⟨i0,e8,f2,f3,f4⟩:=info_parts ke
 go_in
 go_wp2_with fail;have e6:But (· =b) w (w.alloc (.cells #[] 5)):=ag _ _ _;have e7:XrB (w.alloc (.cells #[] 5)) b s i false v0 v1 v2:=hR.but (ag (λ_=>False) _ _) (λh=>h);have f6:=hR.lt
 go_loopg [9] most (λmm vs wr=> ∃(ao:Option Addr) (cap j:Nat) (bad':Bool) (t:L_),vs= .slice ao t.length cap/\t.length<=most/\But (· =b) w wr/\XrB wr b s j bad' v0 v1 v2/\BtB wr w.heap.size (.slice ao t.length cap) t/\
  Hid (yn s n e most R mm t j bad'))
 case atStart=>exact⟨_,0,i,false,[],rfl,by simp,e6,e7,BtB.empty w,Or.inl ⟨rfl,by simp,e5.out⟩⟩
 case round=>
  obtain⟨ao,cap,j,bad',t,rfl,f1,e2,a5,a2,HC⟩:=hrel
  have a7: ∀(w1:World),B_ wr w1->(bad'=true\/ ¬t.length<most\/pk s j=e)-> ∀(w2:World),But (· =b) w1 w2->XrB w2 b s (tkP s e j bad').1 (tkP s e j bad').2 v0 v1 v2->
    But (· =b) w w2/\ ∃v l j bad',Ending.returned (Value.slice ao t.length cap)= .returned v/\XrB w2 b s j bad' v0 v1 v2/\BtB w2 w.heap.size v l/\l.length<=most/\((bad'=false/\R= .ok (l,j))\/(bad'=true/\R= .error j)):=by
   intro w1 h1 h2 w2 h3 h4;have a1:But (· =b) wr w2:=(h1.mono (λ_ _ h=>h.elim)).trans h3;exact⟨e2.trans a1,_,t,_,_,rfl,h4,a2.but a1 (λg hg h=>by have:=ay a2 g hg;omega),f1,HC.out.fin h2⟩
  have HF:=hid a7;clear a7
  by_cases hlt:t.length<most
  .have e9:(t.length:Int)<(most:Int):=by omega
   by_cases hgo:bad'=false/\pk s j≠e
   .obtain⟨rfl,e0⟩:=hgo;have a6:(!false&& !decide (pk s j=e))=true:=by simp[e0]
    obtain⟨m',f7,e3⟩:=HC.out.next hlt e0;have b2:=hid e3;have a0:=dt b s j false v0 v1 v2 wr e a5;rw[a6]at a0;have b1:=hid a0;clear a6 e3 a0 e0 HC HF;go_wp2_with fail;refine b1.out.mono ?_;rintro en w1 ⟨rfl,m,rfl⟩;go_wp2_with fail;refine(nN b s j false v0 v1 v2 _ n hn hs (a5.drewN m)).mono ?_;rintro en w1 ⟨rfl,e1,c9⟩;revert b2 c9;generalize tyX s n j false=Y;intro b2 c9;obtain⟨c,j',b3⟩:=Y;have a3:But (· =b) w w1:=(e2.trans (aK _ _ _)).trans e1;have b5:BtB w1 w.heap.size (.slice ao t.length cap) t:=(a2.but (aK (· =b) _ _) (λg hg h=>by have:=ay a2 g hg;omega)).but e1 (λg hg h=>by have:=ay a2 g hg;omega)
    have c7:w1.ownsRow w.heap.size 5 1 (.slice ao t.length cap) t.length (aP t):=b5;have f8:=a3.size;go_wp2_with (at_builtin;refine wpList_append_lies _ rfl _ _ _ rfl w.heap.size 5 i0 _ 1 1 (by kernel_rfl) e8 f2 f3 f4 rfl (by omega) _ t.length (aP t) rfl (c7.alloc _) ⟨w1.heap.size,0,none⟩ 1 1 [.int .u8 c.toNat] rfl rfl (fX (cs:=#[.int .u8 c.toNat]) (t:=5) (fr:=(0,0)) (aO w1 _)) (by simp[Value.oneCell']) (by omega) (by unfold maxLen;omega) (by omega) (by simp;omega) (w1.heap.size+1) (by simp) ?_);intro gg cap3 w2 b0 a8 f5 f0;have e4:But (λk'=>(Value.slice ao t.length cap).ownBlock=some k') w1 w2:=(ag _ _ _).trans (bc a8)
    have b9:But (· =b) w w2:=a3.next e4 (λk' hk' h=>absurd (ay c7 k' h) (by omega));have a4:=c9.but e4 (λh=>by have:=ay c7 _ h;omega)
    have b6:BtB w2 w.heap.size (.slice (some ⟨gg,0,none⟩) (t++ [c]).length cap3) (t++ [c]):=by
     unfold BtB;rw[aZ,aP,List.map_append];exact b0
    go_wp2_with fail
    go_roundg m'
    case measure=>omega
    case rel=>exact⟨_,cap3,j',b3,t++ [c],by simp,by simp;omega,b9,a4,b6,b2.out⟩
   .have a6:(!bad'&& !decide (pk s j=e))=false:=by
     cases bad' with
     |true=>rfl
     |false=>
      have:pk s j=e:=by
       by_cases h:pk s j=e
       .exact h
       .exact absurd ⟨rfl,h⟩ hgo
      simp[this]
    have hx:bad'=true\/ ¬t.length<most\/pk s j=e:=by
     cases bad' with
     |true=>exact Or.inl rfl
     |false=>
      right;right
      by_cases h:pk s j=e
      .exact h
      .exact absurd ⟨rfl,h⟩ hgo
    have HX:=hid hx;have a0:=dt b s j bad' v0 v1 v2 wr e a5;rw[a6]at a0;have b1:=hid a0;clear a6 a0 hx hgo HC;go_wp2_with fail;refine b1.out.mono ?_;rintro en w1 ⟨rfl,m,rfl⟩;go_wp2_with fail;refine(eu b s j bad' v0 v1 v2 _ e he hs (a5.drewN m)).mono ?_;rintro en w2 ⟨rfl,b4,a4⟩;go_wp2_with fail;exact du (.slice ao t.length cap) results216 rfl rfl (HF.out _ (aK _ _ _) HX.out w2 b4 a4)
  .have e9: ¬(t.length:Int)<(most:Int):=by omega
   go_wp2_with fail;refine(eu b s j bad' v0 v1 v2 _ e he hs a5).mono ?_;rintro en w2 ⟨rfl,b4,a4⟩;go_wp2_with fail;exact du (.slice ao t.length cap) results216 rfl rfl (HF.out _ (But.refl _ _) (Or.inr (Or.inl hlt)) w2 b4 a4)
end
structure bV where
 par:UInt8
 fields:L_
def ix (l:List (bV×Value)):List Value:=l.flatMap λx=> [.int .u8 x.1.par.toNat,x.2]
theorem pw {l:List (bV×Value)} {j k:Nat} {x:bV×Value} (h:l[j]?=some x) (hk:k<2):(ix l)[j*2+k]?=[Value.int .u8 x.1.par.toNat,x.2][k]?:=
 eY (λx:bV×Value=> [Value.int .u8 x.1.par.toNat,x.2]) 2 (λ_=>rfl) l j k x h hk
theorem jk {l:List (bV×Value)} {j:Nat} {x:bV×Value} (h:l[j]?=some x):(ix l)[j*2]?=some (.int .u8 x.1.par.toNat):=pw (k:=0) h (by omega)
theorem jl {l:List (bV×Value)} {j:Nat} {x:bV×Value} (h:l[j]?=some x):(ix l)[j*2+1]?=some x.2:=pw (k:=1) h (by omega)
def TxC (w:World) (b:Nat) (cs:List bV):Prop:=
 ∃v0 l,w.cell? ⟨b,0,none⟩=some v0/\b<w.heap.size/\w.ownsRow 0 240 2 v0 l.length (ix l)/\l.map (·.1)=cs/\ ∀x∈l,BtB w 0 x.2 x.1.fields
theorem TxC.but {w w':World} {b:Nat} {cs:List bV} (h:TxC w b cs) (hb:B_ w w'):TxC w' b cs:=by
 obtain⟨v0,l,h0,hl,hO,hm,hf⟩:=h;exact⟨v0,l,hb.kc h0 hl,bq hl hb.size,aj hO hb (λ_ _ h=>h),hm,λx hx=>(hf x hx).but hb (λ_ _ h=>h)⟩
def vP (n:Nat) (c:UInt8):Int:=if aN n c=true then(c.toNat:Int)-65 else-1
theorem mQ (b:Nat) (cs:List bV) (c:UInt8) (w:World) (hn:cs.length<=100) (hT:TxC w b cs):
  Calls prog 209 #[.pointer (some ⟨b,0,none⟩),.int .u8 c.toNat] w λe w'=>e= .returned (.int .i64 (vP cs.length c))/\w'=w:=by
 obtain⟨v0,l,h0,hl,hO,hm,hf⟩:=hT;obtain⟨ao,cap,rfl⟩:=aw hO;have a0:l.length=cs.length:=by rw[<-hm];simp
 rw[a0]at h0;have a3:c.toNat<256:=c.toNat_lt;obtain⟨R,hR⟩: ∃R,vP cs.length c=R:=⟨_,rfl⟩;rw[hR];unfold vP at hR;generalize cs.length=n at*;clear hm hf hO a0
 by_cases a1:(c.toNat:Int)<65
 .rw[if_neg (by simp[aN];omega)]at hR;subst hR
  go_in
  go_wp2
  go_ret;exact⟨rfl,rfl⟩
 .have a5:IntKind.u8.wrap ((c.toNat:Int)-65)=((c.toNat-65:Nat):Int):=by
   rw[IntWalk.u8_in _ (by omega)];omega
  by_cases a2:(n:Int)<=((c.toNat-65:Nat):Int)
  .rw[if_neg (by simp[aN];omega)]at hR;subst hR
   go_in
   go_wp2
   go_ret;exact⟨rfl,rfl⟩
  .rw[if_pos (by simp[aN];omega)]at hR;have a4:((c.toNat-65:Nat):Int)=R:=by omega
   subst a4;clear hR
   go_in
   go_wp2
   go_ret;exact⟨rfl,rfl⟩
theorem kg (n:Nat) (c:UInt8):(aN n c=false/\vP n c= -1)\/(aN n c=true/\ ∃k:Nat,k<n/\vP n c=k/\c.toNat=65+k):=by
 cases h:aN n c with
 |false=>exact Or.inl ⟨rfl,by unfold vP;rw[h];rfl⟩
 |true=>
  right
  refine⟨rfl,c.toNat-65,?_⟩;have h':=h;simp only[aN,et,ed]at h';unfold vP;rw[h];refine⟨by omega,?_,by omega⟩;simp;omega
theorem iy (b:Nat) (cs:List bV) (c:UInt8) (w:World) (hn:cs.length<=100) (hT:TxC w b cs):
  Calls prog 206 #[.pointer (some ⟨b,0,none⟩),.int .u8 c.toNat] w λe w'=>e= .returned (.bool (aN cs.length c))/\w'=w:=by
 have hc:=mQ b cs c w hn hT;obtain⟨h1,h2⟩ | ⟨h1,k,hk,h2,h3⟩:=kg cs.length c
 .rw[h2]at hc;rw[h1];have HC:=hid hc;clear hc h1 h2
  go_in
  go_wp2_with fail;refine HC.out.mono ?_;rintro en w1 ⟨rfl,rfl⟩;go_wp2_with fail;go_ret;exact⟨rfl,rfl⟩
 .rw[h2]at hc;rw[h1];have HC:=hid hc;have a0:(0:Int)<=(k:Int):=by omega
  clear hc h1 h2 h3
  go_in
  go_wp2_with fail;refine HC.out.mono ?_;rintro en w1 ⟨rfl,rfl⟩;go_wp2_with fail;go_ret;exact⟨rfl,rfl⟩
def kh (cs:List bV) (c:UInt8):UInt8:=if aN cs.length c=true then(cs[c.toNat-65]?.map (·.par)).getD 45 else 45
def cQ (cs:List bV) (c:UInt8):L_:=if aN cs.length c=true then(cs[c.toNat-65]?.map (·.fields)).getD []else []
theorem py (b:Nat) (cs:List bV) (c:UInt8) (w:World) (hn:cs.length<=100) (hT:TxC w b cs):
  Calls prog 240 #[.pointer (some ⟨b,0,none⟩),.int .u8 c.toNat] w λe w'=>e= .returned (.int .u8 (kh cs c).toNat)/\w'=w:=by
 have hc:=mQ b cs c w hn hT;obtain⟨h1,h2⟩ | ⟨h1,k,hk,h2,h3⟩:=kg cs.length c
 .rw[h2]at hc;rw[show kh cs c=45 from by unfold kh;rw[h1];rfl];have HC:=hid hc;clear hc h1 h2
  go_in
  go_wp2_with fail;refine HC.out.mono ?_;rintro en w1 ⟨rfl,rfl⟩;go_wp2_with fail;go_ret;exact⟨rfl,rfl⟩
 .rw[h2]at hc;obtain⟨v0,l,h0,hl,hO,hm,hf⟩:=hT;have a4:l.length=cs.length:=by rw[<-hm];simp
  obtain⟨x,hx⟩: ∃x,l[k]?=some x:=⟨_,aH (by omega)⟩
  have a1:kh cs c=x.1.par:=by
   unfold kh;rw[if_pos h1,show c.toNat-65=k from by omega,<-hm,cg,hx]
   rfl
  rw[a1];obtain⟨ao,cap,rfl⟩:=aw hO;obtain⟨g,rfl,a5,a6,a0⟩:=aF hO (by omega);have q0:=a0 _ _ (jk hx);have q1:=a0 _ _ (jl hx);have a3:=hf x (bp hx);obtain⟨x1,x2⟩:=x;obtain⟨af,capf,a2⟩:=aw a3;simp only at a2 q0 q1;subst a2;have a7:(k:Int)<(l.length:Int):=by omega
  have HC:=hid hc;clear hc h1 h2 h3 a1 a0 hm hf hx a4
  go_in
  go_wp2_with fail;refine HC.out.mono ?_;rintro en w1 ⟨rfl,rfl⟩;go_wp2_with fail;go_ret;exact⟨rfl,rfl⟩
theorem rY (b:Nat) (cs:List bV) (c:UInt8) (w:World) (hn:cs.length<=100) (hT:TxC w b cs):
  Calls prog 157 #[.pointer (some ⟨b,0,none⟩),.int .u8 c.toNat] w λe w'=>e= .returned (.int .i64 (cQ cs c).length)/\w'=w:=by
 have hc:=mQ b cs c w hn hT;obtain⟨h1,h2⟩ | ⟨h1,k,hk,h2,h3⟩:=kg cs.length c
 .rw[h2]at hc;rw[show cQ cs c=[]from by unfold cQ;rw[h1];rfl];have HC:=hid hc;clear hc h1 h2
  go_in
  go_wp2_with fail;refine HC.out.mono ?_;rintro en w1 ⟨rfl,rfl⟩;go_wp2_with fail;go_ret;exact⟨rfl,rfl⟩
 .rw[h2]at hc;obtain⟨v0,l,h0,hl,hO,hm,hf⟩:=hT;have a4:l.length=cs.length:=by rw[<-hm];simp
  obtain⟨x,hx⟩: ∃x,l[k]?=some x:=⟨_,aH (by omega)⟩
  have a1:cQ cs c=x.1.fields:=by
   unfold cQ;rw[if_pos h1,show c.toNat-65=k from by omega,<-hm,cg,hx]
   rfl
  rw[a1];obtain⟨ao,cap,rfl⟩:=aw hO;obtain⟨g,rfl,a5,a6,a0⟩:=aF hO (by omega);have q0:=a0 _ _ (jk hx);have q1:=a0 _ _ (jl hx);have a3:=hf x (bp hx);obtain⟨x1,x2⟩:=x;obtain⟨af,capf,a2⟩:=aw a3;simp only at a2 q0 q1;subst a2;have a7:(k:Int)<(l.length:Int):=by omega
  have HC:=hid hc;clear hc h1 h2 h3 a1 a0 hm hf hx a4
  go_in
  go_wp2_with fail;refine HC.out.mono ?_;rintro en w1 ⟨rfl,rfl⟩;go_wp2_with fail;go_ret;exact⟨rfl,rfl⟩
def cB (l:L_) (k:Nat):UInt8:=if k<l.length then l.getD k 0 else 45
theorem dP {l:L_} {k:Nat} (h:k<l.length):(aP l)[k]?=some (.int .u8 (l.getD k 0).toNat):=by
 simp[aP,List.getD,h]
theorem dZ (ao:Option Addr) (cap:Nat) (l:L_) (k:Nat) (w:World) (hB:BtB w 0 (.slice ao l.length cap) l):
  Calls prog 151 #[.slice ao l.length cap,.int .i64 k] w λe w'=>e= .returned (.int .u8 (cB l k).toNat)/\w'=w:=by
 have a4: ¬(k:Int)<0:=by omega
 by_cases hk:k<l.length
 .rw[show cB l k=l.getD k 0 from by unfold cB;rw[if_pos hk]];obtain⟨g,rfl,a2,a3,a0⟩:=aF hB (by omega);have q:=a0 _ _ (dP hk);have a1: ¬(l.length:Int)<=(k:Int):=by omega
  have a5:(k:Int)<(l.length:Int):=by omega
  revert q;generalize l.getD k 0=c;intro q;clear a0 hB
  go_in
  go_wp2
  go_ret;exact⟨rfl,rfl⟩
 .rw[show cB l k=45 from by unfold cB;rw[if_neg hk]];have a1:(l.length:Int)<=(k:Int):=by omega
  clear hB
  go_in
  go_wp2
  go_ret;exact⟨rfl,rfl⟩
theorem rZ (b:Nat) (cs:List bV) (c:UInt8) (f:Nat) (w:World) (hn:cs.length<=100) (hT:TxC w b cs):
  Calls prog 190 #[.pointer (some ⟨b,0,none⟩),.int .u8 c.toNat,.int .i64 f] w λe w'=>e= .returned (.int .u8 (cB (cQ cs c) f).toNat)/\w'=w:=by
 have hc:=mQ b cs c w hn hT;obtain⟨h1,h2⟩ | ⟨h1,k,hk,h2,h3⟩:=kg cs.length c
 .rw[h2]at hc;rw[show cB (cQ cs c) f=45 from by unfold cB cQ;rw[h1];simp];have HC:=hid hc;clear hc h1 h2
  go_in
  go_wp2_with fail;refine HC.out.mono ?_;rintro en w1 ⟨rfl,rfl⟩;go_wp2_with fail;go_ret;exact⟨rfl,rfl⟩
 .rw[h2]at hc;obtain⟨v0,l,h0,hl,hO,hm,hf⟩:=hT;have a4:l.length=cs.length:=by rw[<-hm];simp
  obtain⟨x,hx⟩: ∃x,l[k]?=some x:=⟨_,aH (by omega)⟩
  have a2:cQ cs c=x.1.fields:=by
   unfold cQ;rw[if_pos h1,show c.toNat-65=k from by omega,<-hm,cg,hx]
   rfl
  rw[a2];obtain⟨ao,cap,rfl⟩:=aw hO;obtain⟨g,rfl,a5,a6,a0⟩:=aF hO (by omega);have q0:=a0 _ _ (jk hx);have q1:=a0 _ _ (jl hx);have a1:=hf x (bp hx);obtain⟨x1,x2⟩:=x;obtain⟨af,capf,a3⟩:=aw a1;simp only at a3 q0 q1 a1;subst a3;have a7:(k:Int)<(l.length:Int):=by omega
  have HC:=hid hc;have HT:=hid (dZ af capf x1.fields f w a1);clear hc h1 h2 h3 a2 a0 hm hf hx a4 a1
  go_in
  go_wp2_with fail;refine HC.out.mono ?_;rintro en w1 ⟨rfl,rfl⟩;go_wp2_with fail;refine HT.out.mono ?_;rintro en w1 ⟨rfl,rfl⟩;go_wp2_with fail;go_ret;exact⟨rfl,rfl⟩
def fG (cs:List bV) (anc:UInt8):Nat->UInt8->Bool
 |0,_=>false
 |f+1,c=>if aN cs.length c=false then false else if c=anc then true else fG cs anc f (kh cs c)
theorem vQ (b:Nat) (cs:List bV) (a c:UInt8) (w:World) (hn:cs.length<=100) (hT:TxC w b cs):
  Calls prog 207 #[.pointer (some ⟨b,0,none⟩),.int .u8 a.toNat,.int .u8 c.toNat] w λe w'=>e= .returned (.bool (fG cs c cs.length a))/\w'=w:=by
 obtain⟨R,a4⟩: ∃R,fG cs c cs.length a=R:=⟨_,rfl⟩;rw[a4];have a1:=hid a4;clear a4;have b0:=hT;obtain⟨v0,l,h0,hl,hO,hm,hf⟩:=b0;obtain⟨ao,cap,rfl⟩:=aw hO;have a8:l.length=cs.length:=by rw[<-hm];simp
 rw[a8]at h0;clear hm hf hO a8;obtain⟨n,a6⟩: ∃n,cs.length=n:=⟨_,rfl⟩;have HN:=hid a6;rw[a6]at h0 hn;clear a6
 go_in
 go_wp2_with fail;rw[HN.out]at a1
 go_loopg [7,8] n (λmm ls is wr=> ∃(x:UInt8) (k:Nat),ls= .int .u8 x.toNat/\is= .int .i64 k/\k<=n/\k+mm<=n/\n<=k+mm/\B_ w wr/\wr=w/\Hid (fG cs c mm x=R))
 case atStart=>exact⟨a,0,rfl,rfl,by omega,by omega,by omega,But.refl _ _,rfl,a1.out⟩
 case round=>
  obtain⟨x,k,rfl,rfl,b4,b1,b5,_,b3,HA⟩:=hrel;subst b3;have a7:gk=n-k:=by omega
  rw[a7]at HA;clear a7 b1
  by_cases hlt:k<n
  .have b2:(k:Int)<(n:Int):=by omega
   rw[show n-k=(n-(k+1))+1 from by omega]at HA;have a0:=iy b cs x wr (by rw[HN.out];exact hn) hT
   by_cases hl:aN cs.length x=true
   .rw[hl]at a0;have a2:=hid a0;have hA:=HA.out;simp only[fG,hl,Bool.true_eq_false,if_false]at hA
    by_cases hxc:x=c
    .rw[if_pos hxc]at hA;have e:((x.toNat:Int)==(c.toNat:Int))=true:=by rw[hxc];simp
     have e2:((x.toNat:Int)=(c.toNat:Int)):=by rw[hxc]
     have E2:=hid e2;subst hA;clear a0 hl hxc HA e2 a1;go_wp2_with fail;refine a2.out.mono ?_;rintro en w1 ⟨rfl,rfl⟩;go_wp2_with fail;go_ret;exact⟨rfl,rfl⟩
    .rw[if_neg hxc]at hA;have e:((x.toNat:Int)==(c.toNat:Int))=false:=by rw[eA];intro h;exact hxc (bS (by omega))
     have e2: ¬((x.toNat:Int)=(c.toNat:Int)):=by simpa using e
     have a3:=hid hA;clear a0 hl hxc HA hA a1;go_wp2_with fail;refine a2.out.mono ?_;rintro en w1 ⟨rfl,rfl⟩;go_wp2_with fail;refine(py b cs x w1 (by rw[HN.out];exact hn) hT).mono ?_;rintro en w2 ⟨rfl,rfl⟩;revert a3;generalize kh cs x=px;intro a3;go_wp2_with fail
     go_roundg (n-(k+1))
     case measure=>omega
     case rel=>exact⟨px,k+1,rfl,by simp,by omega,by omega,by omega,But.refl _ _,rfl,a3.out⟩
   .have a5:aN cs.length x=false:=by simpa using hl
    rw[a5]at a0;have a2:=hid a0;have hA:=HA.out;simp only[fG,a5,if_true]at hA;subst hA;clear a0 hl a5 HA a1;go_wp2_with fail;refine a2.out.mono ?_;rintro en w1 ⟨rfl,rfl⟩;go_wp2_with fail;go_ret;exact⟨rfl,rfl⟩
  .have b2: ¬(k:Int)<(n:Int):=by omega
   rw[show n-k=0 from by omega]at HA;have hA:false=R:=HA.out;subst hA;clear HA a1;go_wp2_with fail;go_ret;exact⟨rfl,rfl⟩
def fq (cs:List bV) (a c:UInt8):Bool:=
 if a=c\/c.toNat=45 then true else if a.toNat=122 then aN cs.length c else fG cs c cs.length a
theorem lF (b:Nat) (cs:List bV) (a c:UInt8) (w:World) (hn:cs.length<=100) (hT:TxC w b cs):
  Calls prog 150 #[.pointer (some ⟨b,0,none⟩),.int .u8 a.toNat,.int .u8 c.toNat] w λe w'=>e= .returned (.bool (fq cs a c))/\w'=w:=by
 by_cases h1:a=c
 .rw[show fq cs a c=true from by unfold fq;rw[if_pos (Or.inl h1)]];have e:((a.toNat:Int)==(c.toNat:Int))=true:=by rw[h1];simp
  clear h1
  go_in
  go_wp2_with fail;go_ret;exact⟨rfl,rfl⟩
 have e:((a.toNat:Int)==(c.toNat:Int))=false:=by rw[eA];intro h;exact h1 (bS (by omega))
 by_cases h2:c.toNat=45
 .rw[show fq cs a c=true from by unfold fq;rw[if_pos (Or.inr h2)]];have e2:((c.toNat:Int)==45)=true:=by rw[beq_iff_eq];omega
  clear h1 h2
  go_in
  go_wp2_with fail;go_ret;exact⟨rfl,rfl⟩
 have e2:=tf c.toNat 45 (by omega)
 by_cases h3:a.toNat=122
 .rw[show fq cs a c=aN cs.length c from by unfold fq;rw[if_neg (not_or.2 ⟨h1,h2⟩),if_pos h3]];have e3:((a.toNat:Int)==122)=true:=by rw[beq_iff_eq];omega
  clear h1 h2 h3
  go_in
  go_wp2_with fail;refine(iy b cs c w hn hT).mono ?_;rintro en w1 ⟨rfl,rfl⟩;go_wp2_with fail;go_ret;exact⟨rfl,rfl⟩
 .rw[show fq cs a c=fG cs c cs.length a from by unfold fq;rw[if_neg (not_or.2 ⟨h1,h2⟩),if_neg h3]];have e3:=tf a.toNat 122 (by omega);clear h1 h2 h3
  go_in
  go_wp2_with fail;refine(vQ b cs a c w hn hT).mono ?_;rintro en w1 ⟨rfl,rfl⟩;go_wp2_with fail;go_ret;exact⟨rfl,rfl⟩
end
end Go.Proofs.YtpfkkmacakjmbaaGreatDoor
