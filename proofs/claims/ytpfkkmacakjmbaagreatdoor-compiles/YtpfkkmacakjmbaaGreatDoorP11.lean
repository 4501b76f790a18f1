import Derived.Test.YtpfkkmacakjmbaaGreatDoorP00
set_option maxRecDepth 100000
set_option maxHeartbeats 6400000
set_option linter.all false
namespace Go.Proofs.YtpfkkmacakjmbaaGreatDoor
open Proofs.Tryz
section
open Go Go.RowKit Sp
structure RdV where
 bods:Value
 hc:Value
 hm:Value
 ha:Value
 hl:Value
 hi:Value
 main:Bool
def XrB (w:World) (b:Nat) (s:ByteArray) (i:Nat) (bad:Bool) (v0 v1:Value) (v2:RdV):Prop:=
 w.heap[b]?=some (.cells #[v0,v1,v2.bods,v2.hc,v2.hm,v2.ha,v2.hl,v2.hi,.int .i64 i,.bool bad,.bool v2.main,.string s] 250)
section
variable {w:World} {b:Nat} {s:ByteArray} {i:Nat} {bad:Bool} {v0 v1:Value} {v2:RdV}
theorem XrB.lt (h:XrB w b s i bad v0 v1 v2):b<w.heap.size:=ae h
theorem XrB.c0 (h:XrB w b s i bad v0 v1 v2):w.cell? ⟨b,0,none⟩=some v0:=ce0 h
theorem XrB.c1 (h:XrB w b s i bad v0 v1 v2):w.cell? ⟨b,1,none⟩=some v1:=ce1 h
theorem XrB.c2 (h:XrB w b s i bad v0 v1 v2):w.cell? ⟨b,2,none⟩=some v2.bods:=ce2 h
theorem XrB.d0 (h:XrB w b s i bad v0 v1 v2):w.cell? ⟨b,3,none⟩=some v2.hc:=ce3 h
theorem XrB.d1 (h:XrB w b s i bad v0 v1 v2):w.cell? ⟨b,4,none⟩=some v2.hm:=ce4 h
theorem XrB.d2 (h:XrB w b s i bad v0 v1 v2):w.cell? ⟨b,5,none⟩=some v2.ha:=ce5 h
theorem XrB.d3 (h:XrB w b s i bad v0 v1 v2):w.cell? ⟨b,6,none⟩=some v2.hl:=ce6 h
theorem XrB.d4 (h:XrB w b s i bad v0 v1 v2):w.cell? ⟨b,7,none⟩=some v2.hi:=ce7 h
theorem XrB.c3 (h:XrB w b s i bad v0 v1 v2):w.cell? ⟨b,8,none⟩=some (.int .i64 i):=ce8 h
theorem XrB.c4 (h:XrB w b s i bad v0 v1 v2):w.cell? ⟨b,9,none⟩=some (.bool bad):=ce9 h
theorem XrB.d5 (h:XrB w b s i bad v0 v1 v2):w.cell? ⟨b,10,none⟩=some (.bool v2.main):=FP h
theorem XrB.c5 (h:XrB w b s i bad v0 v1 v2):w.cell? ⟨b,11,none⟩=some (.string s):=by rw[cz w b 11 _ _ (0,0) h];rfl
theorem XrB.fz (h:XrB w b s i bad v0 v1 v2) (j:Nat):w.frozen? ⟨b,j,none⟩=false:=bG w b j _ _ h
theorem XrB.but {F:Nat->Prop} {w':World} (h:XrB w b s i bad v0 v1 v2) (hb:But F w w') (hf: ¬F b):XrB w' b s i bad v0 v1 v2:=(hb.block b h.lt hf).trans h
theorem XrB.set0 (h:XrB w b s i bad v0 v1 v2) (u:Value):XrB (w.setCell ⟨b,0,none⟩ u) b s i bad u v1 v2:=cQ w b 0 _ _ _ h
theorem XrB.set1 (h:XrB w b s i bad v0 v1 v2) (u:Value):XrB (w.setCell ⟨b,1,none⟩ u) b s i bad v0 u v2:=cQ w b 1 _ _ _ h
theorem XrB.set2 (h:XrB w b s i bad v0 v1 v2) (u:Value):XrB (w.setCell ⟨b,2,none⟩ u) b s i bad v0 v1 ⟨u,v2.hc,v2.hm,v2.ha,v2.hl,v2.hi,v2.main⟩:=cQ w b 2 _ _ _ h
theorem XrB.setB (h:XrB w b s i bad v0 v1 v2) (x0 x1 x2 x3 x4:Value):XrB (((((w.setCell ⟨b,3,none⟩ x0).setCell ⟨b,4,none⟩ x1).setCell ⟨b,5,none⟩ x2).setCell ⟨b,6,none⟩ x3).setCell ⟨b,7,none⟩ x4) b s i bad v0 v1 ⟨v2.bods,x0,x1,x2,x3,x4,v2.main⟩:=
 cQ _ b 7 _ _ _ (cQ _ b 6 _ _ _ (cQ _ b 5 _ _ _ (cQ _ b 4 _ _ _ (cQ w b 3 _ _ _ h))))
theorem XrB.setI (h:XrB w b s i bad v0 v1 v2) (u:Value):XrB (w.setCell ⟨b,7,none⟩ u) b s i bad v0 v1 ⟨v2.bods,v2.hc,v2.hm,v2.ha,v2.hl,u,v2.main⟩:=cQ w b 7 _ _ _ h
theorem XrB.setM (h:XrB w b s i bad v0 v1 v2) (d:Bool):XrB (w.setCell ⟨b,10,none⟩ (.bool d)) b s i bad v0 v1 ⟨v2.bods,v2.hc,v2.hm,v2.ha,v2.hl,v2.hi,d⟩:=cQ w b 10 _ _ _ h
theorem XrB.set3 (h:XrB w b s i bad v0 v1 v2) (j:Nat):XrB (w.setCell ⟨b,8,none⟩ (.int .i64 j)) b s j bad v0 v1 v2:=cQ w b 8 _ _ _ h
theorem XrB.set4 (h:XrB w b s i bad v0 v1 v2) (d:Bool):XrB (w.setCell ⟨b,9,none⟩ (.bool d)) b s i d v0 v1 v2:=cQ w b 9 _ _ _ h
theorem XrB.drewN (h:XrB w b s i bad v0 v1 v2) (n:Nat):XrB (w.drewN n) b s i bad v0 v1 v2:=h
end
section
variable (b:Nat) (s:ByteArray) (i:Nat) (bad:Bool) (v0 v1:Value) (v2:RdV) (w:World)
theorem iG (hR:XrB w b s i bad v0 v1 v2):
  Calls prog 214 #[.pointer (some ⟨b,0,none⟩)] w λe w'=>e= .returned (.int .u8 (pk s i).toNat)/\ ∃n,w'=w.drewN n:=by
 have c:=hR.c3;have d:=hR.c5;clear hR;have a: ¬(i:Int)<0:=by omega
 by_cases hi:(i:Int)<(s.size:Int)
 .have hp:pk s i=s[i]'(by omega):=by unfold pk;rw[dif_pos (by omega)]
  rw[hp];clear hp
  go_in
  go_wp2
  go_quiet (fail)
  go_wp2
  go_quiet (fail)
  go_wp2
  go_ret;exact⟨rfl,_,World.drewN_drewN _ _ _⟩
 .have hp:pk s i=0:=by unfold pk;rw[dif_neg (by omega)]
  rw[hp];clear hp
  go_in
  go_wp2
  go_quiet (fail)
  go_wp2
  go_ret;exact⟨rfl,_,rfl⟩
theorem kb (j:Nat) (hR:XrB w b s i true v0 v1 v2):
  Calls prog 201 #[.pointer (some ⟨b,0,none⟩),.int .i64 j] w λe w'=>e= .returned (.tuple #[])/\But (· =b) w w'/\XrB w' b s i true v0 v1 v2:=by
 have a:=hR.c4
 go_in
 go_wp2
 go_end0;exact⟨rfl,bf _ _,hR⟩
theorem gI (j:Nat) (hR:XrB w b s i false v0 v1 v2):
  Calls prog 201 #[.pointer (some ⟨b,0,none⟩),.int .i64 j] w λe w'=>e= .returned (.tuple #[])/\But (· =b) w w'/\XrB w' b s j true v0 v1 v2:=by
 have f:=hR.c4;have d:=hR.c3;have a:=hR.fz 8;have c:=hR.fz 9
 go_in
 go_wp2
 go_end0;exact⟨rfl,(aj _ _ _ _).trans (aj _ _ _ _),(hR.set4 true).set3 j⟩
theorem d6 (c:UInt8) (hR:XrB w b s i bad v0 v1 v2):
  Calls prog 163 #[.pointer (some ⟨b,0,none⟩),.int .u8 c.toNat] w λe w'=>e= .returned (.bool (!bad&& !decide (pk s i=c)))/\ ∃n,w'=w.drewN n:=by
 have a:=hR.c4
 cases bad with
 |true=>
  go_in
  go_wp2_with fail;exact eh (.bool false) results163 rfl rfl ⟨rfl,0,rfl⟩
 |false=>
  by_cases hc:pk s i=c
  .have e:(((pk s i).toNat:Int)==(c.toNat:Int))=true:=by rw[hc];simp
   have e':(((pk s i).toNat:Int)!=(c.toNat:Int))=false:=by simp[bne,e]
   have ev:(!false&& !decide (pk s i=c))=false:=by simp[hc]
   rw[ev];clear ev hc
   go_in
   go_wp2_with fail;refine(iG b s i false v0 v1 v2 _ hR).mono ?_;rintro en w' ⟨rfl,n,rfl⟩;go_wp2_with fail;exact cA (v:= .bool false) (by simp[results,results163,go_sem,e,e']) rfl ⟨rfl,n,rfl⟩
  .have e:(((pk s i).toNat:Int)==(c.toNat:Int))=false:=by rw[eu];intro h;exact hc (bJ (by omega))
   have e':(((pk s i).toNat:Int)!=(c.toNat:Int))=true:=by simp[bne,e]
   have ev:(!false&& !decide (pk s i=c))=true:=by simp[hc]
   rw[ev];clear ev hc
   go_in
   go_wp2_with fail;refine(iG b s i false v0 v1 v2 _ hR).mono ?_;rintro en w' ⟨rfl,n,rfl⟩;go_wp2_with fail;exact cA (v:= .bool true) (by simp[results,results163,go_sem,e,e']) rfl ⟨rfl,n,rfl⟩
def tbP (s:ByteArray) (i:Nat) (bad:Bool):UInt8×Nat×Bool:=
 if bad=true\/s.size<=i then(0,i,true)else(pk s i,i+1,false)
theorem cS (hs:s.size<=2000) (hR:XrB w b s i bad v0 v1 v2):
  Calls prog 217 #[.pointer (some ⟨b,0,none⟩)] w λe w'=>e= .returned (.int .u8 (tbP s i bad).1.toNat)/\But (· =b) w w'/\XrB w' b s (tbP s i bad).2.1 (tbP s i bad).2.2 v0 v1 v2:=by
 have d:=hR.c3;have f:=hR.c4;have g:=hR.c5;have a:=hR.fz 8;have c:=hR.fz 9;have blt:=hR.lt
 by_cases hi:(i:Int)<(s.size:Int)
 .cases bad with
  |true=>
   rw[show tbP s i true=(0,i,true)from by simp[tbP]]
   go_in
   go_wp2
   go_quiet (fail)
   go_wp2
   go_ret;exact⟨rfl,aH _ _ _,hR.drewN _⟩
  |false=>
   rw[show tbP s i false=(pk s i,i+1,false)from by unfold tbP;rw[if_neg (by simp;omega)]]
   go_in
   go_wp2
   go_quiet (fail)
   go_wp2_with fail;refine(iG b s i false v0 v1 v2 _ (hR.drewN _)).mono ?_;rintro en w' ⟨rfl,n,rfl⟩;go_wp2_with fail;go_ret;exact⟨rfl,(aH _ _ _).trans (aj _ _ _ _),by simpa using(hR.drewN _).set3 (i+1)⟩
 .rw[show tbP s i bad=(0,i,true)from by unfold tbP;rw[if_pos (by right;omega)]]
  go_in
  go_wp2
  go_quiet (fail)
  go_wp2
  go_ret;exact⟨rfl,(aH _ _ _).trans (aj _ _ _ _),(hR.drewN _).set4 true⟩
end
def tkP (s:ByteArray) (c:UInt8) (i:Nat) (bad:Bool):Nat×Bool:=if bad=false/\pk s i=c then(i+1,false)else(i,true)
section
variable (b:Nat) (s:ByteArray) (i:Nat) (bad:Bool) (v0 v1:Value) (v2:RdV) (w:World)
theorem nM {s:ByteArray} {i:Nat} {bad:Bool} (h:bad=true\/s.size<=i):tbP s i bad=(0,i,true):=by unfold tbP;rw[if_pos h]
theorem oV {s:ByteArray} {i:Nat} (h:i<s.size):tbP s i false=(pk s i,i+1,false):=by unfold tbP;rw[if_neg (by simp;omega)]
theorem tJ {s:ByteArray} {i:Nat} (h:s.size<=i):pk s i=0:=by unfold pk;rw[dif_neg (by omega)]
theorem eJ (c:UInt8) (hc0:0<c.toNat) (hs:s.size<=2000) (hR:XrB w b s i bad v0 v1 v2):
  Calls prog 165 #[.pointer (some ⟨b,0,none⟩),.int .u8 c.toNat] w λe w'=>e= .returned (.tuple #[])/\But (· =b) w w'/\XrB w' b s (tkP s c i bad).1 (tkP s c i bad).2 v0 v1 v2:=by
 have x:=hR.c3
 by_cases hz:bad=true\/s.size<=i
 .have l:tkP s c i bad=(i,true):=by
   unfold tkP;rw[if_neg];rintro⟨q,r⟩;obtain h|h:=hz
   .rw[h]at q;cases q
   .rw[tJ h]at r;subst r;simp at hc0
  rw[l];have j:=cS b s i bad v0 v1 v2 w hs hR;rw[nM hz]at j;have m:=hid j;clear j l;have e:((0:Int)==(c.toNat:Int))=false:=by rw[eu];omega
  have e':((0:Int)!=(c.toNat:Int))=true:=by simp[bne,e]
  have n: ¬((0:Int)=(c.toNat:Int)):=by omega
  go_in
  go_wp2_with fail;refine m.out.mono ?_;rintro en w1 ⟨rfl,a,d⟩;go_wp2_with fail;refine(kb b s i v0 v1 v2 w1 i d).mono ?_;rintro en t ⟨rfl,f,g⟩;go_wp2_with fail;go_end0;exact⟨rfl,a.trans f,g⟩
 .have k:=not_or.1 hz;have p:bad=false:=by simpa using k.1
  subst p;have j:=cS b s i false v0 v1 v2 w hs hR;rw[oV (by omega)]at j;have m:=hid j;clear j
  by_cases hc:pk s i=c
  .rw[show tkP s c i false=(i+1,false)from by unfold tkP;rw[if_pos ⟨rfl,hc⟩]];have e:(((pk s i).toNat:Int)==(c.toNat:Int))=true:=by rw[hc];simp
   have e':(((pk s i).toNat:Int)!=(c.toNat:Int))=false:=by simp[bne,e]
   have n:(((pk s i).toNat:Int)=(c.toNat:Int)):=by rw[hc]
   have v:=hid n;clear hc n hz k
   go_in
   go_wp2_with fail;refine m.out.mono ?_;rintro en w1 ⟨rfl,a,d⟩;go_wp2_with fail;go_end0;exact⟨rfl,a,d⟩
  .rw[show tkP s c i false=(i,true)from by unfold tkP;rw[if_neg (λh=>hc h.2)]];have e:(((pk s i).toNat:Int)==(c.toNat:Int))=false:=by rw[eu];intro h;exact hc (bJ (by omega))
   have e':(((pk s i).toNat:Int)!=(c.toNat:Int))=true:=by simp[bne,e]
   have n: ¬(((pk s i).toNat:Int)=(c.toNat:Int)):=by simpa using e
   clear hc hz k
   go_in
   go_wp2_with fail;refine m.out.mono ?_;rintro en w1 ⟨rfl,a,d⟩;go_wp2_with fail;refine(gI b s (i+1) v0 v1 v2 w1 i d).mono ?_;rintro en t ⟨rfl,f,g⟩;go_wp2_with fail;go_end0;exact⟨rfl,a.trans f,g⟩
def dgX (s:ByteArray) (n i:Nat) (bad:Bool):Nat×Nat×Bool:=if bad=false/\gO n (pk s i)=true then((pk s i).toNat-48,i+1,false)else(0,i,true)
theorem ij (n:Nat) (hn:n<=100) (hs:s.size<=2000) (hR:XrB w b s i bad v0 v1 v2):
  Calls prog 220 #[.pointer (some ⟨b,0,none⟩),.int .i64 n] w λe w'=>e= .returned (.int .i64 (dgX s n i bad).1)/\But (· =b) w w'/\XrB w' b s (dgX s n i bad).2.1 (dgX s n i bad).2.2 v0 v1 v2:=by
 have z:=hR.c3
 by_cases hz:bad=true\/s.size<=i
 .have p:dgX s n i bad=(0,i,true):=by
   unfold dgX;rw[if_neg];rintro⟨t,v⟩;obtain h|h:=hz
   .rw[h]at t;cases t
   .rw[tJ h]at v;simp[gO]at v
  rw[p];have k:=cS b s i bad v0 v1 v2 w hs hR;rw[nM hz]at k;have j:=hid k;clear k p
  go_in
  go_wp2_with fail;refine j.out.mono ?_;rintro en w1 ⟨rfl,a,d⟩;go_wp2_with fail;refine(kb b s i v0 v1 v2 w1 i d).mono ?_;rintro en r ⟨rfl,f,g⟩;go_wp2_with fail;go_ret;exact⟨rfl,a.trans f,g⟩
 .have l:=not_or.1 hz;have q:bad=false:=by simpa using l.1
  subst q;have k:=cS b s i false v0 v1 v2 w hs hR;rw[oV (by omega)]at k;have j:=hid k;clear k
  by_cases hd:gO n (pk s i)=true
  .rw[show dgX s n i false=((pk s i).toNat-48,i+1,false)from by unfold dgX;rw[if_pos ⟨rfl,hd⟩]];simp only[gO,dk,dg]at hd;revert j;generalize pk s i=c at*;intro j;have a1: ¬((c.toNat:Int)<48):=by omega
   have x: ¬(57<(c.toNat:Int)):=by omega
   have m:IntKind.u8.wrap ((c.toNat:Int)-48)=((c.toNat-48:Nat):Int):=by
    rw[IntWalk.u8_in _ (by omega)];omega
   have y: ¬((n:Int)<=((c.toNat-48:Nat):Int)):=by omega
   clear hz l hd
   go_in
   go_wp2_with fail;refine j.out.mono ?_;rintro en w1 ⟨rfl,a,d⟩;go_wp2_with fail;go_ret;exact⟨rfl,a,d⟩
  .rw[show dgX s n i false=(0,i,true)from by unfold dgX;rw[if_neg (λh=>hd h.2)]];simp only[gO,dk,dg]at hd;revert j;generalize pk s i=c at*;intro j;clear hz l
   by_cases a1:(c.toNat:Int)<48
   .clear hd
    go_in
    go_wp2_with fail;refine j.out.mono ?_;rintro en w1 ⟨rfl,a,d⟩;go_wp2_with fail;refine(gI b s (i+1) v0 v1 v2 w1 i d).mono ?_;rintro en r ⟨rfl,f,g⟩;go_wp2_with fail;go_ret;exact⟨rfl,a.trans f,g⟩
   .by_cases x:57<(c.toNat:Int)
    .clear hd
     go_in
     go_wp2_with fail;refine j.out.mono ?_;rintro en w1 ⟨rfl,a,d⟩;go_wp2_with fail;refine(gI b s (i+1) v0 v1 v2 w1 i d).mono ?_;rintro en r ⟨rfl,f,g⟩;go_wp2_with fail;go_ret;exact⟨rfl,a.trans f,g⟩
    .have m:IntKind.u8.wrap ((c.toNat:Int)-48)=((c.toNat-48:Nat):Int):=by
      rw[IntWalk.u8_in _ (by omega)];omega
     have y:(n:Int)<=((c.toNat-48:Nat):Int):=by omega
     clear hd
     go_in
     go_wp2_with fail;refine j.out.mono ?_;rintro en w1 ⟨rfl,a,d⟩;go_wp2_with fail;refine(gI b s (i+1) v0 v1 v2 w1 i d).mono ?_;rintro en r ⟨rfl,f,g⟩;go_wp2_with fail;go_ret;exact⟨rfl,a.trans f,g⟩
end
def ltX (s:ByteArray) (n i:Nat) (bad:Bool):UInt8×Nat×Bool:=if bad=false/\aK n (pk s i)=true then(pk s i,i+1,false)else(45,i,true)
def tyX (s:ByteArray) (n i:Nat) (bad:Bool):UInt8×Nat×Bool:=if bad=false/\cw n (pk s i)=true then(pk s i,i+1,false)else(if(pk s i).toNat=105 then 0 else 45,i,true)
def paX (s:ByteArray) (n i:Nat) (bad:Bool):UInt8×Nat×Bool:=if bad=false/\((pk s i).toNat=45\/aK n (pk s i)=true)then(pk s i,i+1,false)else(if(pk s i).toNat=45 then 0 else 45,i,true)
section
variable (b:Nat) (s:ByteArray) (i:Nat) (bad:Bool) (v0 v1:Value) (v2:RdV) (w:World)
theorem pC (n:Nat) (hn:n<=100) (hs:s.size<=2000) (hR:XrB w b s i bad v0 v1 v2):
  Calls prog 218 #[.pointer (some ⟨b,0,none⟩),.int .i64 n] w λe w'=>e= .returned (.int .u8 (ltX s n i bad).1.toNat)/\But (· =b) w w'/\XrB w' b s (ltX s n i bad).2.1 (ltX s n i bad).2.2 v0 v1 v2:=by
 have z:=hR.c3
 by_cases hz:bad=true\/s.size<=i
 .have q:ltX s n i bad=(45,i,true):=by
   unfold ltX;rw[if_neg];rintro⟨t,v⟩;obtain h|h:=hz
   .rw[h]at t;cases t
   .rw[tJ h]at v;simp[aK]at v
  rw[q];have k:=cS b s i bad v0 v1 v2 w hs hR;rw[nM hz]at k;have j:=hid k;clear k q
  go_in
  go_wp2_with fail;refine j.out.mono ?_;rintro en w1 ⟨rfl,a,d⟩;go_wp2_with fail;refine(kb b s i v0 v1 v2 w1 i d).mono ?_;rintro en x ⟨rfl,f,g⟩;go_wp2_with fail;go_ret;exact⟨rfl,a.trans f,g⟩
 .have l:=not_or.1 hz;have r:bad=false:=by simpa using l.1
  subst r;have k:=cS b s i false v0 v1 v2 w hs hR;rw[oV (by omega)]at k;have j:=hid k;clear k
  by_cases hd:aK n (pk s i)=true
  .rw[show ltX s n i false=(pk s i,i+1,false)from by unfold ltX;rw[if_pos ⟨rfl,hd⟩]];simp only[aK,dk,dg]at hd;revert j;generalize pk s i=c at*;intro j;have m:c.toNat<256:=c.toNat_lt;have a1: ¬((c.toNat:Int)<65):=by omega
   have p:IntKind.u8.wrap ((c.toNat:Int)-65)=((c.toNat-65:Nat):Int):=by
    rw[IntWalk.u8_in _ (by omega)];omega
   have y: ¬((n:Int)<=((c.toNat-65:Nat):Int)):=by omega
   clear hz l hd
   go_in
   go_wp2_with fail;refine j.out.mono ?_;rintro en w1 ⟨rfl,a,d⟩;go_wp2_with fail;go_ret;exact⟨rfl,a,d⟩
  .rw[show ltX s n i false=(45,i,true)from by unfold ltX;rw[if_neg (λh=>hd h.2)]];simp only[aK,dk,dg]at hd;revert j;generalize pk s i=c at*;intro j;have m:c.toNat<256:=c.toNat_lt;clear hz l
   by_cases a1:(c.toNat:Int)<65
   .clear hd
    go_in
    go_wp2_with fail;refine j.out.mono ?_;rintro en w1 ⟨rfl,a,d⟩;go_wp2_with fail;refine(gI b s (i+1) v0 v1 v2 w1 i d).mono ?_;rintro en x ⟨rfl,f,g⟩;go_wp2_with fail;go_ret;exact⟨rfl,a.trans f,g⟩
   .have p:IntKind.u8.wrap ((c.toNat:Int)-65)=((c.toNat-65:Nat):Int):=by
     rw[IntWalk.u8_in _ (by omega)];omega
    have y:(n:Int)<=((c.toNat-65:Nat):Int):=by omega
    clear hd
    go_in
    go_wp2_with fail;refine j.out.mono ?_;rintro en w1 ⟨rfl,a,d⟩;go_wp2_with fail;refine(gI b s (i+1) v0 v1 v2 w1 i d).mono ?_;rintro en x ⟨rfl,f,g⟩;go_wp2_with fail;go_ret;exact⟨rfl,a.trans f,g⟩
theorem jM (n cap:Nat) (ao:Option Addr) (hn:n<=100) (hs:s.size<=2000) (hR:XrB w b s i bad (.slice ao n cap) v1 v2):
  Calls prog 219 #[.pointer (some ⟨b,0,none⟩)] w λe w'=>e= .returned (.int .u8 (ltX s n i bad).1.toNat)/\But (· =b) w w'/\XrB w' b s (ltX s n i bad).2.1 (ltX s n i bad).2.2 (.slice ao n cap) v1 v2:=by
 have d:=hR.c0
 go_in
 go_wp2_with fail;refine(pC b s i bad (.slice ao n cap) v1 v2 w n hn hs hR).mono ?_;rintro en f ⟨rfl,a,c⟩;go_wp2_with fail;go_ret;exact⟨rfl,a,c⟩
theorem oW (n:Nat) (hn:n<=4) (hs:s.size<=2000) (hR:XrB w b s i bad v0 v1 v2):
  Calls prog 166 #[.pointer (some ⟨b,0,none⟩),.int .i64 n] w λe w'=>e= .returned (.int .u8 (tyX s n i bad).1.toNat)/\But (· =b) w w'/\XrB w' b s (tyX s n i bad).2.1 (tyX s n i bad).2.2 v0 v1 v2:=by
 by_cases h105:(pk s i).toNat=105
 .have e:(((pk s i).toNat:Int)==105)=true:=by rw[aX];omega
  have f:i<s.size:=iw (by omega)
  have a:tyX s n i bad=tbP s i bad:=by
   unfold tyX tbP
   cases bad with
   |true=>simp[h105]
   |false=>rw[if_pos ⟨rfl,by simp[cw,h105]⟩,if_neg (by simp;omega)]
  rw[a];clear h105 a
  go_in
  go_wp2_with fail;refine(iG b s i bad v0 v1 v2 w hR).mono ?_;rintro en w1 ⟨rfl,m,rfl⟩;go_wp2_with fail;refine(cS b s i bad v0 v1 v2 _ hs (hR.drewN m)).mono ?_;rintro en g ⟨rfl,c,d⟩;go_wp2_with fail;go_ret;exact⟨rfl,(aH _ _ _).trans c,d⟩
 .have e:(((pk s i).toNat:Int)==105)=false:=by rw[eu];omega
  have a:tyX s n i bad=ltX s n i bad:=by
   unfold tyX ltX;simp[cw,h105]
  rw[a];clear h105 a
  go_in
  go_wp2_with fail;refine(iG b s i bad v0 v1 v2 w hR).mono ?_;rintro en w1 ⟨rfl,m,rfl⟩;go_wp2_with fail;refine(pC b s i bad v0 v1 v2 _ n (by omega) hs (hR.drewN m)).mono ?_;rintro en g ⟨rfl,c,d⟩;go_wp2_with fail;go_ret;exact⟨rfl,(aH _ _ _).trans c,d⟩
theorem vw (n cap:Nat) (ao:Option Addr) (hn:n<=4) (hs:s.size<=2000) (hR:XrB w b s i bad (.slice ao n cap) v1 v2):
  Calls prog 215 #[.pointer (some ⟨b,0,none⟩)] w λe w'=>e= .returned (.int .u8 (paX s n i bad).1.toNat)/\But (· =b) w w'/\XrB w' b s (paX s n i bad).2.1 (paX s n i bad).2.2 (.slice ao n cap) v1 v2:=by
 by_cases h45:(pk s i).toNat=45
 .have e:(((pk s i).toNat:Int)==45)=true:=by rw[aX];omega
  have f:i<s.size:=iw (by omega)
  have a:paX s n i bad=tbP s i bad:=by
   unfold paX tbP
   cases bad with
   |true=>simp[h45]
   |false=>rw[if_pos ⟨rfl,Or.inl h45⟩,if_neg (by simp;omega)]
  rw[a];clear h45 a
  go_in
  go_wp2_with fail;refine(iG b s i bad (.slice ao n cap) v1 v2 w hR).mono ?_;rintro en w1 ⟨rfl,m,rfl⟩;go_wp2_with fail;refine(cS b s i bad (.slice ao n cap) v1 v2 _ hs (hR.drewN m)).mono ?_;rintro en g ⟨rfl,c,d⟩;go_wp2_with fail;go_ret;exact⟨rfl,(aH _ _ _).trans c,d⟩
 .have e:(((pk s i).toNat:Int)==45)=false:=by rw[eu];omega
  have a:paX s n i bad=ltX s n i bad:=by
   unfold paX ltX;simp[h45]
  rw[a];clear h45 a
  go_in
  go_wp2_with fail;refine(iG b s i bad (.slice ao n cap) v1 v2 w hR).mono ?_;rintro en w1 ⟨rfl,m,rfl⟩;go_wp2_with fail;refine(jM b s i bad v1 v2 _ n cap ao (by omega) hs (hR.drewN m)).mono ?_;rintro en g ⟨rfl,c,d⟩;go_wp2_with fail;go_ret;exact⟨rfl,(aH _ _ _).trans c,d⟩
end
end
section
open Go Go.RowKit Sp
attribute [local go_sem ↓] eY eZ
def a7 (l:L_):List Value:=l.map λc=> .int .u8 c.toNat
theorem nN:(prog.info? 5).map (λi=>(i.zero,i.size,i.bytes))=some (some (.int .u8 0),1,1):=by kernel_rfl
def BtB (w:World) (base:Nat) (v:Value) (l:L_):Prop:=w.ownsRow base 5 1 v l.length (a7 l)
theorem BtB.empty (w:World):BtB (w.alloc (.cells #[] 5)) w.heap.size (.slice (some ⟨w.heap.size,0,none⟩) 0 0) []:=by
 refine⟨rfl,Or.inr ⟨w.heap.size,0,#[],rfl,bP _,aO _ _,bP _,by unfold maxLen;omega,rfl,rfl⟩⟩
theorem BtB.but {F:Nat->Prop} {w w':World} {base:Nat} {v:Value} {l:L_} (h:BtB w base v l) (hb:But F w w') (hf: ∀g,v.ownBlock=some g-> ¬F g):BtB w' base v l:=ag h hb hf
def zD (s:ByteArray) (n:Nat) (e:UInt8) (most:Nat) (R:Except Nat (L_×Nat)) (mm:Nat) (t:L_) (j:Nat) (bad:Bool):Prop:=
 (bad=false/\t.length+mm=most/\tys s n e mm t j=R)\/(bad=true/\mm=0/\R= .error j)
theorem zD.fin {s:ByteArray} {n:Nat} {e:UInt8} {most:Nat} {R:Except Nat (L_×Nat)} {mm:Nat} {t:L_} {j:Nat} {bad:Bool} (h:zD s n e most R mm t j bad) (hx:bad=true\/ ¬t.length<most\/pk s j=e):
  ((tkP s e j bad).2=false/\R= .ok (t,(tkP s e j bad).1))\/((tkP s e j bad).2=true/\R= .error (tkP s e j bad).1):=by
 obtain⟨rfl,b,a⟩ | ⟨rfl,b,a⟩:=h
 .by_cases hp:pk s j=e
  .left
   rw[show tkP s e j false=(j+1,false)from by unfold tkP;rw[if_pos ⟨rfl,hp⟩]];refine⟨rfl,?_⟩;rw[<-a]
   cases mm<;>simp[tys,hp]
  .right
   rw[show tkP s e j false=(j,true)from by unfold tkP;rw[if_neg (λh=>hp h.2)]];refine⟨rfl,?_⟩
   have:mm=0:=by
    obtain h|h|h:=hx
    .cases h
    .omega
    .exact absurd h hp
   subst this;rw[<-a];simp[tys,hp]
 .right
  rw[show tkP s e j true=(j,true)from by unfold tkP;rw[if_neg (by simp)]];exact⟨rfl,a⟩
theorem zD.next {s:ByteArray} {n:Nat} {e:UInt8} {most:Nat} {R:Except Nat (L_×Nat)} {mm:Nat} {t:L_} {j:Nat} (h:zD s n e most R mm t j false) (hl:t.length<most) (hp:pk s j≠e):
  ∃m',m'<mm/\zD s n e most R m' (t++ [(tyX s n j false).1]) (tyX s n j false).2.1 (tyX s n j false).2.2:=by
 obtain⟨_,b,a⟩ | ⟨h,_⟩:=h
 .obtain⟨f,rfl⟩: ∃f,mm=f+1:=⟨mm-1,by omega⟩;simp only[tys,if_neg hp]at a
  by_cases ht:cw n (pk s j)=true
  .rw[show tyX s n j false=(pk s j,j+1,false)from by unfold tyX;rw[if_pos ⟨rfl,ht⟩]];rw[if_pos ht]at a;exact⟨f,by omega,Or.inl ⟨rfl,by simp;omega,a⟩⟩
  .rw[show tyX s n j false=(if(pk s j).toNat=105 then 0 else 45,j,true)from by unfold tyX;rw[if_neg (λh=>ht h.2)]];rw[if_neg ht]at a;exact⟨0,by omega,Or.inr ⟨rfl,rfl,a.symm⟩⟩
 .cases h
section
variable (b:Nat) (s:ByteArray) (i:Nat) (bad:Bool) (v0 v1:Value) (v2:RdV) (w:World)
theorem xn (most n:Nat) (e:UInt8) (he:0<e.toNat) (hm:most<=10) (hn:n<=4) (hs:s.size<=2000) (hR:XrB w b s i false v0 v1 v2):
  Calls prog 216 #[.pointer (some ⟨b,0,none⟩),.int .i64 most,.int .i64 n,.int .u8 e.toNat] w λen w'=>But (· =b) w w'/\ ∃v l j bad',en= .returned v/\XrB w' b s j bad' v0 v1 v2/\BtB w' w.heap.size v l/\l.length<=most/\
   ((bad'=false/\tys s n e most [] i= .ok (l,j))\/(bad'=true/\tys s n e most [] i= .error j)):=by
 obtain⟨R,E⟩: ∃R,tys s n e most [] i=R:=⟨_,rfl⟩;rw[E];have Z:=hid E;clear E;obtain⟨i0,a2,a6,b0,b1⟩:=info_parts nN
 go_in
 go_wp2_with fail;have a0:But (· =b) w (w.alloc (.cells #[] 5)):=aa _ _ _;have a1:XrB (w.alloc (.cells #[] 5)) b s i false v0 v1 v2:=hR.but (aa (λ_=>False) _ _) (λh=>h);have b3:=hR.lt
 go_loopg [9] most (λmm vs wr=> ∃(ao:Option Addr) (cap j:Nat) (bad':Bool) (t:L_),vs= .slice ao t.length cap/\t.length<=most/\But (· =b) w wr/\XrB wr b s j bad' v0 v1 v2/\BtB wr w.heap.size (.slice ao t.length cap) t/\
  Hid (zD s n e most R mm t j bad'))
 case atStart=>exact⟨_,0,i,false,[],rfl,by simp,a0,a1,BtB.empty w,Or.inl ⟨rfl,by simp,Z.out⟩⟩
 case round=>
  obtain⟨ao,cap,j,bad',t,rfl,a5,L,p,f,T⟩:=hrel
  have y: ∀(w1:World),B_ wr w1->(bad'=true\/ ¬t.length<most\/pk s j=e)-> ∀(d:World),But (· =b) w1 d->XrB d b s (tkP s e j bad').1 (tkP s e j bad').2 v0 v1 v2->
    But (· =b) w d/\ ∃v l j bad',Ending.returned (Value.slice ao t.length cap)= .returned v/\XrB d b s j bad' v0 v1 v2/\BtB d w.heap.size v l/\l.length<=most/\((bad'=false/\R= .ok (l,j))\/(bad'=true/\R= .error j)):=by
   intro w1 h1 h2 d h3 h4;have r:But (· =b) wr d:=(h1.mono (λ_ _ h=>h.elim)).trans h3;exact⟨L.trans r,_,t,_,_,rfl,h4,f.but r (λg hg h=>by have:=aw f g hg;omega),a5,T.out.fin h2⟩
  have X:=hid y;clear y
  by_cases hlt:t.length<most
  .have a3:(t.length:Int)<(most:Int):=by omega
   by_cases hgo:bad'=false/\pk s j≠e
   .obtain⟨rfl,G⟩:=hgo;have q:(!false&& !decide (pk s j=e))=true:=by simp[G]
    obtain⟨m',b4,Q⟩:=T.out.next hlt G;have A:=hid Q;have a:=d6 b s j false v0 v1 v2 wr e p;rw[q]at a;have z:=hid a;clear q Q a G T X;go_wp2_with fail;refine z.out.mono ?_;rintro en w1 ⟨rfl,m,rfl⟩;go_wp2_with fail;refine(oW b s j false v0 v1 v2 _ n hn hs (p.drewN m)).mono ?_;rintro en w1 ⟨rfl,J,D⟩;revert A D;generalize tyX s n j false=Y;intro A D;obtain⟨c,j',I⟩:=Y;have x:But (· =b) w w1:=(L.trans (aH _ _ _)).trans J;have M:BtB w1 w.heap.size (.slice ao t.length cap) t:=(f.but (aH (· =b) _ _) (λg hg h=>by have:=aw f g hg;omega)).but J (λg hg h=>by have:=aw f g hg;omega);have C:w1.ownsRow w.heap.size 5 1 (.slice ao t.length cap) t.length (a7 t):=M
    have b5:=x.size;go_wp2_with (at_builtin;refine wpList_append_lies _ rfl _ _ _ rfl w.heap.size 5 i0 _ 1 1 (by kernel_rfl) a2 a6 b0 b1 rfl (by omega) _ t.length (a7 t) rfl (C.alloc _) ⟨w1.heap.size,0,none⟩ 1 1 [.int .u8 c.toNat] rfl rfl (iu (cs:=#[.int .u8 c.toNat]) (t:=5) (fr:=(0,0)) (aO w1 _)) (by simp[Value.oneCell']) (by omega) (by unfold maxLen;omega) (by omega) (by simp;omega) (w1.heap.size+1) (by simp) ?_);intro gg cap3 d H F b2 a4;have S:But (λk'=>(Value.slice ao t.length cap).ownBlock=some k') w1 d:=(aa _ _ _).trans (a8 F);have P:But (· =b) w d:=x.next S (λk' hk' h=>absurd (aw C k' h) (by omega))
    have k:=D.but S (λh=>by have:=aw C _ h;omega)
    have O:BtB d w.heap.size (.slice (some ⟨gg,0,none⟩) (t++ [c]).length cap3) (t++ [c]):=by
     unfold BtB;rw[aN,a7,List.map_append];exact H
    go_wp2_with fail
    go_roundg m'
    case measure=>omega
    case rel=>exact⟨_,cap3,j',I,t++ [c],by simp,by simp;omega,P,k,O,A.out⟩
   .have q:(!bad'&& !decide (pk s j=e))=false:=by
     cases bad' with
     |true=>rfl
     |false=>
      have:pk s j=e:=by
       by_cases h:pk s j=e
       .exact h
       .exact absurd ⟨rfl,h⟩ hgo
      simp[this]
    have hx:bad'=true\/ ¬t.length<most\/pk s j=e:=by
     cases bad' with
     |true=>exact Or.inl rfl
     |false=>
      right;right
      by_cases h:pk s j=e
      .exact h
      .exact absurd ⟨rfl,h⟩ hgo
    have HX:=hid hx;have a:=d6 b s j bad' v0 v1 v2 wr e p;rw[q]at a;have z:=hid a;clear q a hx hgo T;go_wp2_with fail;refine z.out.mono ?_;rintro en w1 ⟨rfl,m,rfl⟩;go_wp2_with fail;refine(eJ b s j bad' v0 v1 v2 _ e he hs (p.drewN m)).mono ?_;rintro en d ⟨rfl,B,k⟩;go_wp2_with fail;exact eh (.slice ao t.length cap) results216 rfl rfl (X.out _ (aH _ _ _) HX.out d B k)
  .have a3: ¬(t.length:Int)<(most:Int):=by omega
   go_wp2_with fail;refine(eJ b s j bad' v0 v1 v2 _ e he hs p).mono ?_;rintro en d ⟨rfl,B,k⟩;go_wp2_with fail;exact eh (.slice ao t.length cap) results216 rfl rfl (X.out _ (bf _ _) (Or.inr (Or.inl hlt)) d B k)
end
structure cd where
 par:UInt8
 fields:L_
def jt (l:List (cd×Value)):List Value:=l.flatMap λx=> [.int .u8 x.1.par.toNat,x.2]
theorem qz {l:List (cd×Value)} {j k:Nat} {x:cd×Value} (h:l[j]?=some x) (hk:k<2):(jt l)[j*2+k]?=[Value.int .u8 x.1.par.toNat,x.2][k]?:=
 fN (λx:cd×Value=> [Value.int .u8 x.1.par.toNat,x.2]) 2 (λ_=>rfl) l j k x h hk
theorem ke {l:List (cd×Value)} {j:Nat} {x:cd×Value} (h:l[j]?=some x):(jt l)[j*2]?=some (.int .u8 x.1.par.toNat):=qz (k:=0) h (by omega)
theorem kg {l:List (cd×Value)} {j:Nat} {x:cd×Value} (h:l[j]?=some x):(jt l)[j*2+1]?=some x.2:=qz (k:=1) h (by omega)
def TxC (w:World) (b:Nat) (cs:List cd):Prop:=
 ∃v0 l,w.cell? ⟨b,0,none⟩=some v0/\b<w.heap.size/\w.ownsRow 0 240 2 v0 l.length (jt l)/\l.map (·.1)=cs/\ ∀x∈l,BtB w 0 x.2 x.1.fields
theorem TxC.but {w w':World} {b:Nat} {cs:List cd} (h:TxC w b cs) (hb:B_ w w'):TxC w' b cs:=by
 obtain⟨v0,l,a,hl,c,hm,d⟩:=h;exact⟨v0,l,hb.kc a hl,bK hl hb.size,ag c hb (λ_ _ h=>h),hm,λx hx=>(d x hx).but hb (λ_ _ h=>h)⟩
def xo (n:Nat) (c:UInt8):Int:=if aK n c=true then(c.toNat:Int)-65 else-1
theorem nO (b:Nat) (cs:List cd) (c:UInt8) (w:World) (hn:cs.length<=100) (hT:TxC w b cs):
  Calls prog 209 #[.pointer (some ⟨b,0,none⟩),.int .u8 c.toNat] w λe w'=>e= .returned (.int .i64 (xo cs.length c))/\w'=w:=by
 obtain⟨v0,l,j,hl,h,hm,k⟩:=hT;obtain⟨ao,cap,rfl⟩:=ay h;have d:l.length=cs.length:=by rw[<-hm];simp
 rw[d]at j;have g:c.toNat<256:=c.toNat_lt;obtain⟨R,a⟩: ∃R,xo cs.length c=R:=⟨_,rfl⟩;rw[a];unfold xo at a;generalize cs.length=n at*;clear hm k h d
 by_cases a1:(c.toNat:Int)<65
 .rw[if_neg (by simp[aK];omega)]at a;subst a
  go_in
  go_wp2
  go_ret;exact⟨rfl,rfl⟩
 .have i:IntKind.u8.wrap ((c.toNat:Int)-65)=((c.toNat-65:Nat):Int):=by
   rw[IntWalk.u8_in _ (by omega)];omega
  by_cases a2:(n:Int)<=((c.toNat-65:Nat):Int)
  .rw[if_neg (by simp[aK];omega)]at a;subst a
   go_in
   go_wp2
   go_ret;exact⟨rfl,rfl⟩
  .rw[if_pos (by simp[aK];omega)]at a;have f:((c.toNat-65:Nat):Int)=R:=by omega
   subst f;clear a
   go_in
   go_wp2
   go_ret;exact⟨rfl,rfl⟩
theorem kQ (n:Nat) (c:UInt8):(aK n c=false/\xo n c= -1)\/(aK n c=true/\ ∃k:Nat,k<n/\xo n c=k/\c.toNat=65+k):=by
 cases h:aK n c with
 |false=>exact Or.inl ⟨rfl,by unfold xo;rw[h];rfl⟩
 |true=>
  right
  refine⟨rfl,c.toNat-65,?_⟩;have h':=h;simp only[aK,dk,dg]at h';unfold xo;rw[h];refine⟨by omega,?_,by omega⟩;simp;omega
theorem ju (b:Nat) (cs:List cd) (c:UInt8) (w:World) (hn:cs.length<=100) (hT:TxC w b cs):
  Calls prog 206 #[.pointer (some ⟨b,0,none⟩),.int .u8 c.toNat] w λe w'=>e= .returned (.bool (aK cs.length c))/\w'=w:=by
 have hc:=nO b cs c w hn hT;obtain⟨a,d⟩ | ⟨a,k,i,d,g⟩:=kQ cs.length c
 .rw[d]at hc;rw[a];have f:=hid hc;clear hc a d
  go_in
  go_wp2_with fail;refine f.out.mono ?_;rintro en w1 ⟨rfl,rfl⟩;go_wp2_with fail;go_ret;exact⟨rfl,rfl⟩
 .rw[d]at hc;rw[a];have f:=hid hc;have h:(0:Int)<=(k:Int):=by omega
  clear hc a d g
  go_in
  go_wp2_with fail;refine f.out.mono ?_;rintro en w1 ⟨rfl,rfl⟩;go_wp2_with fail;go_ret;exact⟨rfl,rfl⟩
def kR (cs:List cd) (c:UInt8):UInt8:=if aK cs.length c=true then(cs[c.toNat-65]?.map (·.par)).getD 45 else 45
def cD (cs:List cd) (c:UInt8):L_:=if aK cs.length c=true then(cs[c.toNat-65]?.map (·.fields)).getD []else []
theorem qA (b:Nat) (cs:List cd) (c:UInt8) (w:World) (hn:cs.length<=100) (hT:TxC w b cs):
  Calls prog 240 #[.pointer (some ⟨b,0,none⟩),.int .u8 c.toNat] w λe w'=>e= .returned (.int .u8 (kR cs c).toNat)/\w'=w:=by
 have hc:=nO b cs c w hn hT;obtain⟨d,f⟩ | ⟨d,k,C,f,s⟩:=kQ cs.length c
 .rw[f]at hc;rw[show kR cs c=45 from by unfold kR;rw[d];rfl];have m:=hid hc;clear hc d f
  go_in
  go_wp2_with fail;refine m.out.mono ?_;rintro en w1 ⟨rfl,rfl⟩;go_wp2_with fail;go_ret;exact⟨rfl,rfl⟩
 .rw[f]at hc;obtain⟨v0,l,B,hl,q,hm,r⟩:=hT;have p:l.length=cs.length:=by rw[<-hm];simp
  obtain⟨x,i⟩: ∃x,l[k]?=some x:=⟨_,aG (by omega)⟩
  have h:kR cs c=x.1.par:=by
   unfold kR;rw[if_pos d,show c.toNat-65=k from by omega,<-hm,cV,i]
   rfl
  rw[h];obtain⟨ao,cap,rfl⟩:=ay q;obtain⟨g,rfl,t,v,a⟩:=aE q (by omega);have z:=a _ _ (ke i);have A:=a _ _ (kg i);have n:=r x (bn i);obtain⟨x1,x2⟩:=x;obtain⟨af,capf,j⟩:=ay n;simp only at j z A;subst j;have y:(k:Int)<(l.length:Int):=by omega
  have m:=hid hc;clear hc d f s h a hm r i p
  go_in
  go_wp2_with fail;refine m.out.mono ?_;rintro en w1 ⟨rfl,rfl⟩;go_wp2_with fail;go_ret;exact⟨rfl,rfl⟩
theorem tK (b:Nat) (cs:List cd) (c:UInt8) (w:World) (hn:cs.length<=100) (hT:TxC w b cs):
  Calls prog 157 #[.pointer (some ⟨b,0,none⟩),.int .u8 c.toNat] w λe w'=>e= .returned (.int .i64 (cD cs c).length)/\w'=w:=by
 have hc:=nO b cs c w hn hT;obtain⟨d,f⟩ | ⟨d,k,C,f,s⟩:=kQ cs.length c
 .rw[f]at hc;rw[show cD cs c=[]from by unfold cD;rw[d];rfl];have m:=hid hc;clear hc d f
  go_in
  go_wp2_with fail;refine m.out.mono ?_;rintro en w1 ⟨rfl,rfl⟩;go_wp2_with fail;go_ret;exact⟨rfl,rfl⟩
 .rw[f]at hc;obtain⟨v0,l,B,hl,q,hm,r⟩:=hT;have p:l.length=cs.length:=by rw[<-hm];simp
  obtain⟨x,i⟩: ∃x,l[k]?=some x:=⟨_,aG (by omega)⟩
  have h:cD cs c=x.1.fields:=by
   unfold cD;rw[if_pos d,show c.toNat-65=k from by omega,<-hm,cV,i]
   rfl
  rw[h];obtain⟨ao,cap,rfl⟩:=ay q;obtain⟨g,rfl,t,v,a⟩:=aE q (by omega);have z:=a _ _ (ke i);have A:=a _ _ (kg i);have n:=r x (bn i);obtain⟨x1,x2⟩:=x;obtain⟨af,capf,j⟩:=ay n;simp only at j z A;subst j;have y:(k:Int)<(l.length:Int):=by omega
  have m:=hid hc;clear hc d f s h a hm r i p
  go_in
  go_wp2_with fail;refine m.out.mono ?_;rintro en w1 ⟨rfl,rfl⟩;go_wp2_with fail;go_ret;exact⟨rfl,rfl⟩
def cM (l:L_) (k:Nat):UInt8:=if k<l.length then l.getD k 0 else 45
theorem jN {l:L_} {k:Nat} (h:k<l.length):(a7 l)[k]?=some (.int .u8 (l.getD k 0).toNat):=by
 simp[a7,List.getD,h]
theorem d7 (ao:Option Addr) (cap:Nat) (l:L_) (k:Nat) (w:World) (hB:BtB w 0 (.slice ao l.length cap) l):
  Calls prog 151 #[.slice ao l.length cap,.int .i64 k] w λe w'=>e= .returned (.int .u8 (cM l k).toNat)/\w'=w:=by
 have h: ¬(k:Int)<0:=by omega
 by_cases hk:k<l.length
 .rw[show cM l k=l.getD k 0 from by unfold cM;rw[if_pos hk]];obtain⟨g,rfl,d,f,a⟩:=aE hB (by omega);have q:=a _ _ (jN hk);have b: ¬(l.length:Int)<=(k:Int):=by omega
  have i:(k:Int)<(l.length:Int):=by omega
  revert q;generalize l.getD k 0=c;intro q;clear a hB
  go_in
  go_wp2
  go_ret;exact⟨rfl,rfl⟩
 .rw[show cM l k=45 from by unfold cM;rw[if_neg hk]];have b:(l.length:Int)<=(k:Int):=by omega
  clear hB
  go_in
  go_wp2
  go_ret;exact⟨rfl,rfl⟩
theorem tL (b:Nat) (cs:List cd) (c:UInt8) (f:Nat) (w:World) (hn:cs.length<=100) (hT:TxC w b cs):
  Calls prog 190 #[.pointer (some ⟨b,0,none⟩),.int .u8 c.toNat,.int .i64 f] w λe w'=>e= .returned (.int .u8 (cM (cD cs c) f).toNat)/\w'=w:=by
 have hc:=nO b cs c w hn hT;obtain⟨h,i⟩ | ⟨h,k,D,i,t⟩:=kQ cs.length c
 .rw[i]at hc;rw[show cM (cD cs c) f=45 from by unfold cM cD;rw[h];simp];have p:=hid hc;clear hc h i
  go_in
  go_wp2_with fail;refine p.out.mono ?_;rintro en w1 ⟨rfl,rfl⟩;go_wp2_with fail;go_ret;exact⟨rfl,rfl⟩
 .rw[i]at hc;obtain⟨v0,l,C,hl,r,hm,s⟩:=hT;have q:l.length=cs.length:=by rw[<-hm];simp
  obtain⟨x,m⟩: ∃x,l[k]?=some x:=⟨_,aG (by omega)⟩
  have j:cD cs c=x.1.fields:=by
   unfold cD;rw[if_pos h,show c.toNat-65=k from by omega,<-hm,cV,m]
   rfl
  rw[j];obtain⟨ao,cap,rfl⟩:=ay r;obtain⟨g,rfl,v,y,a⟩:=aE r (by omega);have A:=a _ _ (ke m);have B:=a _ _ (kg m);have d:=s x (bn m);obtain⟨x1,x2⟩:=x;obtain⟨af,capf,n⟩:=ay d;simp only at n A B d;subst n;have z:(k:Int)<(l.length:Int):=by omega
  have p:=hid hc;have HT:=hid (d7 af capf x1.fields f w d);clear hc h i t j a hm s m q d
  go_in
  go_wp2_with fail;refine p.out.mono ?_;rintro en w1 ⟨rfl,rfl⟩;go_wp2_with fail;refine HT.out.mono ?_;rintro en w1 ⟨rfl,rfl⟩;go_wp2_with fail;go_ret;exact⟨rfl,rfl⟩
def gJ (cs:List cd) (anc:UInt8):Nat->UInt8->Bool
 |0,_=>false
 |f+1,c=>if aK cs.length c=false then false else if c=anc then true else gJ cs anc f (kR cs c)
theorem xp (b:Nat) (cs:List cd) (a c:UInt8) (w:World) (hn:cs.length<=100) (hT:TxC w b cs):
  Calls prog 207 #[.pointer (some ⟨b,0,none⟩),.int .u8 a.toNat,.int .u8 c.toNat] w λe w'=>e= .returned (.bool (gJ cs c cs.length a))/\w'=w:=by
 obtain⟨R,p⟩: ∃R,gJ cs c cs.length a=R:=⟨_,rfl⟩;rw[p];have f:=hid p;clear p;have z:=hT;obtain⟨v0,l,D,hl,E,hm,F⟩:=z;obtain⟨ao,cap,rfl⟩:=ay E;have t:l.length=cs.length:=by rw[<-hm];simp
 rw[t]at D;clear hm F E t;obtain⟨n,r⟩: ∃n,cs.length=n:=⟨_,rfl⟩;have v:=hid r;rw[r]at D hn;clear r
 go_in
 go_wp2_with fail;rw[v.out]at f
 go_loopg [7,8] n (λmm ls is wr=> ∃(x:UInt8) (k:Nat),ls= .int .u8 x.toNat/\is= .int .i64 k/\k<=n/\k+mm<=n/\n<=k+mm/\B_ w wr/\wr=w/\Hid (gJ cs c mm x=R))
 case atStart=>exact⟨a,0,rfl,rfl,by omega,by omega,by omega,bf _ _,rfl,f.out⟩
 case round=>
  obtain⟨x,k,rfl,rfl,G,A,H,_,C,i⟩:=hrel;subst C;have s:gk=n-k:=by omega
  rw[s]at i;clear s A
  by_cases hlt:k<n
  .have B:(k:Int)<(n:Int):=by omega
   rw[show n-k=(n-(k+1))+1 from by omega]at i;have d:=ju b cs x wr (by rw[v.out];exact hn) hT
   by_cases hl:aK cs.length x=true
   .rw[hl]at d;have j:=hid d;have g:=i.out;simp only[gJ,hl,Bool.true_eq_false,if_false]at g
    by_cases hxc:x=c
    .rw[if_pos hxc]at g;have e:((x.toNat:Int)==(c.toNat:Int))=true:=by rw[hxc];simp
     have y:((x.toNat:Int)=(c.toNat:Int)):=by rw[hxc]
     have I:=hid y;subst g;clear d hl hxc i y f;go_wp2_with fail;refine j.out.mono ?_;rintro en w1 ⟨rfl,rfl⟩;go_wp2_with fail;go_ret;exact⟨rfl,rfl⟩
    .rw[if_neg hxc]at g;have e:((x.toNat:Int)==(c.toNat:Int))=false:=by rw[eu];intro h;exact hxc (bJ (by omega))
     have y: ¬((x.toNat:Int)=(c.toNat:Int)):=by simpa using e
     have m:=hid g;clear d hl hxc i g f;go_wp2_with fail;refine j.out.mono ?_;rintro en w1 ⟨rfl,rfl⟩;go_wp2_with fail;refine(qA b cs x w1 (by rw[v.out];exact hn) hT).mono ?_;rintro en J ⟨rfl,rfl⟩;revert m;generalize kR cs x=px;intro m;go_wp2_with fail
     go_roundg (n-(k+1))
     case measure=>omega
     case rel=>exact⟨px,k+1,rfl,by simp,by omega,by omega,by omega,bf _ _,rfl,m.out⟩
   .have q:aK cs.length x=false:=by simpa using hl
    rw[q]at d;have j:=hid d;have g:=i.out;simp only[gJ,q,if_true]at g;subst g;clear d hl q i f;go_wp2_with fail;refine j.out.mono ?_;rintro en w1 ⟨rfl,rfl⟩;go_wp2_with fail;go_ret;exact⟨rfl,rfl⟩
  .have B: ¬(k:Int)<(n:Int):=by omega
   rw[show n-k=0 from by omega]at i;have g:false=R:=i.out;subst g;clear i f;go_wp2_with fail;go_ret;exact⟨rfl,rfl⟩
def gd (cs:List cd) (a c:UInt8):Bool:=
 if a=c\/c.toNat=45 then true else if a.toNat=122 then aK cs.length c else gJ cs c cs.length a
theorem mw (b:Nat) (cs:List cd) (a c:UInt8) (w:World) (hn:cs.length<=100) (hT:TxC w b cs):
  Calls prog 150 #[.pointer (some ⟨b,0,none⟩),.int .u8 a.toNat,.int .u8 c.toNat] w λe w'=>e= .returned (.bool (gd cs a c))/\w'=w:=by
 by_cases h1:a=c
 .rw[show gd cs a c=true from by unfold gd;rw[if_pos (Or.inl h1)]];have e:((a.toNat:Int)==(c.toNat:Int))=true:=by rw[h1];simp
  clear h1
  go_in
  go_wp2_with fail;go_ret;exact⟨rfl,rfl⟩
 have e:((a.toNat:Int)==(c.toNat:Int))=false:=by rw[eu];intro h;exact h1 (bJ (by omega))
 by_cases h2:c.toNat=45
 .rw[show gd cs a c=true from by unfold gd;rw[if_pos (Or.inr h2)]];have d:((c.toNat:Int)==45)=true:=by rw[aX];omega
  clear h1 h2
  go_in
  go_wp2_with fail;go_ret;exact⟨rfl,rfl⟩
 have d:=tf c.toNat 45 (by omega)
 by_cases h3:a.toNat=122
 .rw[show gd cs a c=aK cs.length c from by unfold gd;rw[if_neg (not_or.2 ⟨h1,h2⟩),if_pos h3]];have f:((a.toNat:Int)==122)=true:=by rw[aX];omega
  clear h1 h2 h3
  go_in
  go_wp2_with fail;refine(ju b cs c w hn hT).mono ?_;rintro en w1 ⟨rfl,rfl⟩;go_wp2_with fail;go_ret;exact⟨rfl,rfl⟩
 .rw[show gd cs a c=gJ cs c cs.length a from by unfold gd;rw[if_neg (not_or.2 ⟨h1,h2⟩),if_neg h3]];have f:=tf a.toNat 122 (by omega);clear h1 h2 h3
  go_in
  go_wp2_with fail;refine(xp b cs a c w hn hT).mono ?_;rintro en w1 ⟨rfl,rfl⟩;go_wp2_with fail;go_ret;exact⟨rfl,rfl⟩
end
end Go.Proofs.YtpfkkmacakjmbaaGreatDoor
