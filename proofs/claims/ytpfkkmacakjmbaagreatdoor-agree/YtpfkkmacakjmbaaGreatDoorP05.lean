import Derived.Test.YtpfkkmacakjmbaaGreatDoorP00
set_option maxRecDepth 100000
set_option maxHeartbeats 6400000
set_option linter.all false
namespace Go.Proofs.YtpfkkmacakjmbaaGreatDoor
open Proofs.Tryz
section
open Go Go.RowKit Sp
structure RdV where
 bods:Value
 hc:Value
 hm:Value
 ha:Value
 hl:Value
 hi:Value
 main:Bool
def XrB (w:World) (b:Nat) (s:ByteArray) (i:Nat) (bad:Bool) (v0 v1:Value) (v2:RdV):Prop:=
 w.heap[b]?=some (.cells #[v0,v1,v2.bods,v2.hc,v2.hm,v2.ha,v2.hl,v2.hi,.int .i64 i,.bool bad,.bool v2.main,.string s] 250)
section
variable {w:World} {b:Nat} {s:ByteArray} {i:Nat} {bad:Bool} {v0 v1:Value} {v2:RdV}
theorem XrB.lt (h:XrB w b s i bad v0 v1 v2):b<w.heap.size:=ae h
theorem XrB.c0 (h:XrB w b s i bad v0 v1 v2):w.cell? ⟨b,0,none⟩=some v0:=ce0 h
theorem XrB.c1 (h:XrB w b s i bad v0 v1 v2):w.cell? ⟨b,1,none⟩=some v1:=ce1 h
theorem XrB.c2 (h:XrB w b s i bad v0 v1 v2):w.cell? ⟨b,2,none⟩=some v2.bods:=ce2 h
theorem XrB.d0 (h:XrB w b s i bad v0 v1 v2):w.cell? ⟨b,3,none⟩=some v2.hc:=ce3 h
theorem XrB.d1 (h:XrB w b s i bad v0 v1 v2):w.cell? ⟨b,4,none⟩=some v2.hm:=ce4 h
theorem XrB.d2 (h:XrB w b s i bad v0 v1 v2):w.cell? ⟨b,5,none⟩=some v2.ha:=ce5 h
theorem XrB.d3 (h:XrB w b s i bad v0 v1 v2):w.cell? ⟨b,6,none⟩=some v2.hl:=ce6 h
theorem XrB.d4 (h:XrB w b s i bad v0 v1 v2):w.cell? ⟨b,7,none⟩=some v2.hi:=ce7 h
theorem XrB.c3 (h:XrB w b s i bad v0 v1 v2):w.cell? ⟨b,8,none⟩=some (.int .i64 i):=ce8 h
theorem XrB.c4 (h:XrB w b s i bad v0 v1 v2):w.cell? ⟨b,9,none⟩=some (.bool bad):=ce9 h
theorem XrB.d5 (h:XrB w b s i bad v0 v1 v2):w.cell? ⟨b,10,none⟩=some (.bool v2.main):=Fy h
theorem XrB.c5 (h:XrB w b s i bad v0 v1 v2):w.cell? ⟨b,11,none⟩=some (.string s):=by rw[bU w b 11 _ _ (0,0) h];rfl
theorem XrB.fz (h:XrB w b s i bad v0 v1 v2) (j:Nat):w.frozen? ⟨b,j,none⟩=false:=cw w b j _ _ h
theorem XrB.but {F:Nat->Prop} {w':World} (h:XrB w b s i bad v0 v1 v2) (hb:But F w w') (hf: ¬F b):XrB w' b s i bad v0 v1 v2:=(hb.block b h.lt hf).trans h
theorem XrB.set0 (h:XrB w b s i bad v0 v1 v2) (u:Value):XrB (w.setCell ⟨b,0,none⟩ u) b s i bad u v1 v2:=bS w b 0 _ _ _ h
theorem XrB.set1 (h:XrB w b s i bad v0 v1 v2) (u:Value):XrB (w.setCell ⟨b,1,none⟩ u) b s i bad v0 u v2:=bS w b 1 _ _ _ h
theorem XrB.set2 (h:XrB w b s i bad v0 v1 v2) (u:Value):XrB (w.setCell ⟨b,2,none⟩ u) b s i bad v0 v1 ⟨u,v2.hc,v2.hm,v2.ha,v2.hl,v2.hi,v2.main⟩:=bS w b 2 _ _ _ h
theorem XrB.setB (h:XrB w b s i bad v0 v1 v2) (x0 x1 x2 x3 x4:Value):XrB (((((w.setCell ⟨b,3,none⟩ x0).setCell ⟨b,4,none⟩ x1).setCell ⟨b,5,none⟩ x2).setCell ⟨b,6,none⟩ x3).setCell ⟨b,7,none⟩ x4) b s i bad v0 v1 ⟨v2.bods,x0,x1,x2,x3,x4,v2.main⟩:=
 bS _ b 7 _ _ _ (bS _ b 6 _ _ _ (bS _ b 5 _ _ _ (bS _ b 4 _ _ _ (bS w b 3 _ _ _ h))))
theorem XrB.setI (h:XrB w b s i bad v0 v1 v2) (u:Value):XrB (w.setCell ⟨b,7,none⟩ u) b s i bad v0 v1 ⟨v2.bods,v2.hc,v2.hm,v2.ha,v2.hl,u,v2.main⟩:=bS w b 7 _ _ _ h
theorem XrB.setM (h:XrB w b s i bad v0 v1 v2) (d:Bool):XrB (w.setCell ⟨b,10,none⟩ (.bool d)) b s i bad v0 v1 ⟨v2.bods,v2.hc,v2.hm,v2.ha,v2.hl,v2.hi,d⟩:=bS w b 10 _ _ _ h
theorem XrB.set3 (h:XrB w b s i bad v0 v1 v2) (j:Nat):XrB (w.setCell ⟨b,8,none⟩ (.int .i64 j)) b s j bad v0 v1 v2:=bS w b 8 _ _ _ h
theorem XrB.set4 (h:XrB w b s i bad v0 v1 v2) (d:Bool):XrB (w.setCell ⟨b,9,none⟩ (.bool d)) b s i d v0 v1 v2:=bS w b 9 _ _ _ h
theorem XrB.drewN (h:XrB w b s i bad v0 v1 v2) (n:Nat):XrB (w.drewN n) b s i bad v0 v1 v2:=h
end
section
variable (b:Nat) (s:ByteArray) (i:Nat) (bad:Bool) (v0 v1:Value) (v2:RdV) (w:World)
theorem ij (hR:XrB w b s i bad v0 v1 v2):
  Calls prog 214 #[.pointer (some ⟨b,0,none⟩)] w λe w'=>e= .returned (.int .u8 (pk s i).toNat)/\ ∃n,w'=w.drewN n:=by
 have c:=hR.c3;have d:=hR.c5;clear hR;have a: ¬(i:Int)<0:=by omega
 by_cases hi:(i:Int)<(s.size:Int)
 .have hp:pk s i=s[i]'(by omega):=by unfold pk;rw[dif_pos (by omega)]
  rw[hp];clear hp
  go_in
  go_wp2
  go_quiet (fail)
  go_wp2
  go_quiet (fail)
  go_wp2
  go_ret;exact⟨rfl,_,World.drewN_drewN _ _ _⟩
 .have hp:pk s i=0:=by unfold pk;rw[dif_neg (by omega)]
  rw[hp];clear hp
  go_in
  go_wp2
  go_quiet (fail)
  go_wp2
  go_ret;exact⟨rfl,_,rfl⟩
theorem jC (j:Nat) (hR:XrB w b s i true v0 v1 v2):
  Calls prog 201 #[.pointer (some ⟨b,0,none⟩),.int .i64 j] w λe w'=>e= .returned (.tuple #[])/\But (· =b) w w'/\XrB w' b s i true v0 v1 v2:=by
 have a:=hR.c4
 go_in
 go_wp2
 go_end0;exact⟨rfl,cq _ _,hR⟩
theorem gc (j:Nat) (hR:XrB w b s i false v0 v1 v2):
  Calls prog 201 #[.pointer (some ⟨b,0,none⟩),.int .i64 j] w λe w'=>e= .returned (.tuple #[])/\But (· =b) w w'/\XrB w' b s j true v0 v1 v2:=by
 have f:=hR.c4;have d:=hR.c3;have a:=hR.fz 8;have c:=hR.fz 9
 go_in
 go_wp2
 go_end0;exact⟨rfl,(aq _ _ _ _).trans (aq _ _ _ _),(hR.set4 true).set3 j⟩
theorem dA (c:UInt8) (hR:XrB w b s i bad v0 v1 v2):
  Calls prog 163 #[.pointer (some ⟨b,0,none⟩),.int .u8 c.toNat] w λe w'=>e= .returned (.bool (!bad&& !decide (pk s i=c)))/\ ∃n,w'=w.drewN n:=by
 have a:=hR.c4
 cases bad with
 |true=>
  go_in
  go_wp2_with fail;exact cV (.bool false) results163 rfl rfl ⟨rfl,0,rfl⟩
 |false=>
  by_cases hc:pk s i=c
  .have e:(((pk s i).toNat:Int)==(c.toNat:Int))=true:=by rw[hc];simp
   have e':(((pk s i).toNat:Int)!=(c.toNat:Int))=false:=by simp[bne,e]
   have ev:(!false&& !decide (pk s i=c))=false:=by simp[hc]
   rw[ev];clear ev hc
   go_in
   go_wp2_with fail;refine(ij b s i false v0 v1 v2 _ hR).mono ?_;rintro en w' ⟨rfl,n,rfl⟩;go_wp2_with fail;exact cU (v:= .bool false) (by simp[results,results163,go_sem,e,e']) rfl ⟨rfl,n,rfl⟩
  .have e:(((pk s i).toNat:Int)==(c.toNat:Int))=false:=by rw[fh];intro h;exact hc (ck (by omega))
   have e':(((pk s i).toNat:Int)!=(c.toNat:Int))=true:=by simp[bne,e]
   have ev:(!false&& !decide (pk s i=c))=true:=by simp[hc]
   rw[ev];clear ev hc
   go_in
   go_wp2_with fail;refine(ij b s i false v0 v1 v2 _ hR).mono ?_;rintro en w' ⟨rfl,n,rfl⟩;go_wp2_with fail;exact cU (v:= .bool true) (by simp[results,results163,go_sem,e,e']) rfl ⟨rfl,n,rfl⟩
def tbP (s:ByteArray) (i:Nat) (bad:Bool):UInt8×Nat×Bool:=
 if bad=true\/s.size<=i then(0,i,true)else(pk s i,i+1,false)
theorem bT (hs:s.size<=2000) (hR:XrB w b s i bad v0 v1 v2):
  Calls prog 217 #[.pointer (some ⟨b,0,none⟩)] w λe w'=>e= .returned (.int .u8 (tbP s i bad).1.toNat)/\But (· =b) w w'/\XrB w' b s (tbP s i bad).2.1 (tbP s i bad).2.2 v0 v1 v2:=by
 have d:=hR.c3;have f:=hR.c4;have g:=hR.c5;have a:=hR.fz 8;have c:=hR.fz 9;have blt:=hR.lt
 by_cases hi:(i:Int)<(s.size:Int)
 .cases bad with
  |true=>
   rw[show tbP s i true=(0,i,true)from by simp[tbP]]
   go_in
   go_wp2
   go_quiet (fail)
   go_wp2
   go_ret;exact⟨rfl,bp _ _ _,hR.drewN _⟩
  |false=>
   rw[show tbP s i false=(pk s i,i+1,false)from by unfold tbP;rw[if_neg (by simp;omega)]]
   go_in
   go_wp2
   go_quiet (fail)
   go_wp2_with fail;refine(ij b s i false v0 v1 v2 _ (hR.drewN _)).mono ?_;rintro en w' ⟨rfl,n,rfl⟩;go_wp2_with fail;go_ret;exact⟨rfl,(bp _ _ _).trans (aq _ _ _ _),by simpa using(hR.drewN _).set3 (i+1)⟩
 .rw[show tbP s i bad=(0,i,true)from by unfold tbP;rw[if_pos (by right;omega)]]
  go_in
  go_wp2
  go_quiet (fail)
  go_wp2
  go_ret;exact⟨rfl,(bp _ _ _).trans (aq _ _ _ _),(hR.drewN _).set4 true⟩
end
def tkP (s:ByteArray) (c:UInt8) (i:Nat) (bad:Bool):Nat×Bool:=if bad=false/\pk s i=c then(i+1,false)else(i,true)
section
variable (b:Nat) (s:ByteArray) (i:Nat) (bad:Bool) (v0 v1:Value) (v2:RdV) (w:World)
theorem lM {s:ByteArray} {i:Nat} {bad:Bool} (h:bad=true\/s.size<=i):tbP s i bad=(0,i,true):=by unfold tbP;rw[if_pos h]
theorem jX {s:ByteArray} {i:Nat} (h:i<s.size):tbP s i false=(pk s i,i+1,false):=by unfold tbP;rw[if_neg (by simp;omega)]
theorem qh {s:ByteArray} {i:Nat} (h:s.size<=i):pk s i=0:=by unfold pk;rw[dif_neg (by omega)]
theorem eJ (c:UInt8) (hc0:0<c.toNat) (hs:s.size<=2000) (hR:XrB w b s i bad v0 v1 v2):
  Calls prog 165 #[.pointer (some ⟨b,0,none⟩),.int .u8 c.toNat] w λe w'=>e= .returned (.tuple #[])/\But (· =b) w w'/\XrB w' b s (tkP s c i bad).1 (tkP s c i bad).2 v0 v1 v2:=by
 have t:=hR.c3
 by_cases hz:bad=true\/s.size<=i
 .have k:tkP s c i bad=(i,true):=by
   unfold tkP;rw[if_neg];rintro⟨p,q⟩;obtain h|h:=hz
   .rw[h]at p;cases p
   .rw[qh h]at q;subst q;simp at hc0
  rw[k];have hb:=bT b s i bad v0 v1 v2 w hs hR;rw[lM hz]at hb;have l:=hid hb;clear hb k;have e:((0:Int)==(c.toNat:Int))=false:=by rw[fh];omega
  have e':((0:Int)!=(c.toNat:Int))=true:=by simp[bne,e]
  have m: ¬((0:Int)=(c.toNat:Int)):=by omega
  go_in
  go_wp2_with fail;refine l.out.mono ?_;rintro en w1 ⟨rfl,a,d⟩;go_wp2_with fail;refine(jC b s i v0 v1 v2 w1 i d).mono ?_;rintro en w2 ⟨rfl,f,g⟩;go_wp2_with fail;go_end0;exact⟨rfl,a.trans f,g⟩
 .have j:=not_or.1 hz;have n:bad=false:=by simpa using j.1
  subst n;have hb:=bT b s i false v0 v1 v2 w hs hR;rw[jX (by omega)]at hb;have l:=hid hb;clear hb
  by_cases hc:pk s i=c
  .rw[show tkP s c i false=(i+1,false)from by unfold tkP;rw[if_pos ⟨rfl,hc⟩]];have e:(((pk s i).toNat:Int)==(c.toNat:Int))=true:=by rw[hc];simp
   have e':(((pk s i).toNat:Int)!=(c.toNat:Int))=false:=by simp[bne,e]
   have m:(((pk s i).toNat:Int)=(c.toNat:Int)):=by rw[hc]
   have r:=hid m;clear hc m hz j
   go_in
   go_wp2_with fail;refine l.out.mono ?_;rintro en w1 ⟨rfl,a,d⟩;go_wp2_with fail;go_end0;exact⟨rfl,a,d⟩
  .rw[show tkP s c i false=(i,true)from by unfold tkP;rw[if_neg (λh=>hc h.2)]];have e:(((pk s i).toNat:Int)==(c.toNat:Int))=false:=by rw[fh];intro h;exact hc (ck (by omega))
   have e':(((pk s i).toNat:Int)!=(c.toNat:Int))=true:=by simp[bne,e]
   have m: ¬(((pk s i).toNat:Int)=(c.toNat:Int)):=by simpa using e
   clear hc hz j
   go_in
   go_wp2_with fail;refine l.out.mono ?_;rintro en w1 ⟨rfl,a,d⟩;go_wp2_with fail;refine(gc b s (i+1) v0 v1 v2 w1 i d).mono ?_;rintro en w2 ⟨rfl,f,g⟩;go_wp2_with fail;go_end0;exact⟨rfl,a.trans f,g⟩
def dgX (s:ByteArray) (n i:Nat) (bad:Bool):Nat×Nat×Bool:=if bad=false/\gY n (pk s i)=true then((pk s i).toNat-48,i+1,false)else(0,i,true)
theorem dQ (n:Nat) (hn:n<=100) (hs:s.size<=2000) (hR:XrB w b s i bad v0 v1 v2):
  Calls prog 220 #[.pointer (some ⟨b,0,none⟩),.int .i64 n] w λe w'=>e= .returned (.int .i64 (dgX s n i bad).1)/\But (· =b) w w'/\XrB w' b s (dgX s n i bad).2.1 (dgX s n i bad).2.2 v0 v1 v2:=by
 have x:=hR.c3
 by_cases hz:bad=true\/s.size<=i
 .have m:dgX s n i bad=(0,i,true):=by
   unfold dgX;rw[if_neg];rintro⟨q,r⟩;obtain h|h:=hz
   .rw[h]at q;cases q
   .rw[qh h]at r;simp[gY]at r
  rw[m];have hb:=bT b s i bad v0 v1 v2 w hs hR;rw[lM hz]at hb;have j:=hid hb;clear hb m
  go_in
  go_wp2_with fail;refine j.out.mono ?_;rintro en w1 ⟨rfl,a,d⟩;go_wp2_with fail;refine(jC b s i v0 v1 v2 w1 i d).mono ?_;rintro en w2 ⟨rfl,f,g⟩;go_wp2_with fail;go_ret;exact⟨rfl,a.trans f,g⟩
 .have k:=not_or.1 hz;have p:bad=false:=by simpa using k.1
  subst p;have hb:=bT b s i false v0 v1 v2 w hs hR;rw[jX (by omega)]at hb;have j:=hid hb;clear hb
  by_cases hd:gY n (pk s i)=true
  .rw[show dgX s n i false=((pk s i).toNat-48,i+1,false)from by unfold dgX;rw[if_pos ⟨rfl,hd⟩]];simp only[gY,dl,dk]at hd;revert j;generalize pk s i=c at*;intro j;have a1: ¬((c.toNat:Int)<48):=by omega
   have t: ¬(57<(c.toNat:Int)):=by omega
   have l:IntKind.u8.wrap ((c.toNat:Int)-48)=((c.toNat-48:Nat):Int):=by
    rw[IntWalk.u8_in _ (by omega)];omega
   have v: ¬((n:Int)<=((c.toNat-48:Nat):Int)):=by omega
   clear hz k hd
   go_in
   go_wp2_with fail;refine j.out.mono ?_;rintro en w1 ⟨rfl,a,d⟩;go_wp2_with fail;go_ret;exact⟨rfl,a,d⟩
  .rw[show dgX s n i false=(0,i,true)from by unfold dgX;rw[if_neg (λh=>hd h.2)]];simp only[gY,dl,dk]at hd;revert j;generalize pk s i=c at*;intro j;clear hz k
   by_cases a1:(c.toNat:Int)<48
   .clear hd
    go_in
    go_wp2_with fail;refine j.out.mono ?_;rintro en w1 ⟨rfl,a,d⟩;go_wp2_with fail;refine(gc b s (i+1) v0 v1 v2 w1 i d).mono ?_;rintro en w2 ⟨rfl,f,g⟩;go_wp2_with fail;go_ret;exact⟨rfl,a.trans f,g⟩
   .by_cases t:57<(c.toNat:Int)
    .clear hd
     go_in
     go_wp2_with fail;refine j.out.mono ?_;rintro en w1 ⟨rfl,a,d⟩;go_wp2_with fail;refine(gc b s (i+1) v0 v1 v2 w1 i d).mono ?_;rintro en w2 ⟨rfl,f,g⟩;go_wp2_with fail;go_ret;exact⟨rfl,a.trans f,g⟩
    .have l:IntKind.u8.wrap ((c.toNat:Int)-48)=((c.toNat-48:Nat):Int):=by
      rw[IntWalk.u8_in _ (by omega)];omega
     have v:(n:Int)<=((c.toNat-48:Nat):Int):=by omega
     clear hd
     go_in
     go_wp2_with fail;refine j.out.mono ?_;rintro en w1 ⟨rfl,a,d⟩;go_wp2_with fail;refine(gc b s (i+1) v0 v1 v2 w1 i d).mono ?_;rintro en w2 ⟨rfl,f,g⟩;go_wp2_with fail;go_ret;exact⟨rfl,a.trans f,g⟩
end
def ltX (s:ByteArray) (n i:Nat) (bad:Bool):UInt8×Nat×Bool:=if bad=false/\aQ n (pk s i)=true then(pk s i,i+1,false)else(45,i,true)
def tyX (s:ByteArray) (n i:Nat) (bad:Bool):UInt8×Nat×Bool:=if bad=false/\cY n (pk s i)=true then(pk s i,i+1,false)else(if(pk s i).toNat=105 then 0 else 45,i,true)
def paX (s:ByteArray) (n i:Nat) (bad:Bool):UInt8×Nat×Bool:=if bad=false/\((pk s i).toNat=45\/aQ n (pk s i)=true)then(pk s i,i+1,false)else(if(pk s i).toNat=45 then 0 else 45,i,true)
section
variable (b:Nat) (s:ByteArray) (i:Nat) (bad:Bool) (v0 v1:Value) (v2:RdV) (w:World)
theorem o8 (n:Nat) (hn:n<=100) (hs:s.size<=2000) (hR:XrB w b s i bad v0 v1 v2):
  Calls prog 218 #[.pointer (some ⟨b,0,none⟩),.int .i64 n] w λe w'=>e= .returned (.int .u8 (ltX s n i bad).1.toNat)/\But (· =b) w w'/\XrB w' b s (ltX s n i bad).2.1 (ltX s n i bad).2.2 v0 v1 v2:=by
 have x:=hR.c3
 by_cases hz:bad=true\/s.size<=i
 .have p:ltX s n i bad=(45,i,true):=by
   unfold ltX;rw[if_neg];rintro⟨r,t⟩;obtain h|h:=hz
   .rw[h]at r;cases r
   .rw[qh h]at t;simp[aQ]at t
  rw[p];have hb:=bT b s i bad v0 v1 v2 w hs hR;rw[lM hz]at hb;have j:=hid hb;clear hb p
  go_in
  go_wp2_with fail;refine j.out.mono ?_;rintro en w1 ⟨rfl,a,d⟩;go_wp2_with fail;refine(jC b s i v0 v1 v2 w1 i d).mono ?_;rintro en w2 ⟨rfl,f,g⟩;go_wp2_with fail;go_ret;exact⟨rfl,a.trans f,g⟩
 .have k:=not_or.1 hz;have q:bad=false:=by simpa using k.1
  subst q;have hb:=bT b s i false v0 v1 v2 w hs hR;rw[jX (by omega)]at hb;have j:=hid hb;clear hb
  by_cases hd:aQ n (pk s i)=true
  .rw[show ltX s n i false=(pk s i,i+1,false)from by unfold ltX;rw[if_pos ⟨rfl,hd⟩]];simp only[aQ,dl,dk]at hd;revert j;generalize pk s i=c at*;intro j;have l:c.toNat<256:=c.toNat_lt;have a1: ¬((c.toNat:Int)<65):=by omega
   have m:IntKind.u8.wrap ((c.toNat:Int)-65)=((c.toNat-65:Nat):Int):=by
    rw[IntWalk.u8_in _ (by omega)];omega
   have v: ¬((n:Int)<=((c.toNat-65:Nat):Int)):=by omega
   clear hz k hd
   go_in
   go_wp2_with fail;refine j.out.mono ?_;rintro en w1 ⟨rfl,a,d⟩;go_wp2_with fail;go_ret;exact⟨rfl,a,d⟩
  .rw[show ltX s n i false=(45,i,true)from by unfold ltX;rw[if_neg (λh=>hd h.2)]];simp only[aQ,dl,dk]at hd;revert j;generalize pk s i=c at*;intro j;have l:c.toNat<256:=c.toNat_lt;clear hz k
   by_cases a1:(c.toNat:Int)<65
   .clear hd
    go_in
    go_wp2_with fail;refine j.out.mono ?_;rintro en w1 ⟨rfl,a,d⟩;go_wp2_with fail;refine(gc b s (i+1) v0 v1 v2 w1 i d).mono ?_;rintro en w2 ⟨rfl,f,g⟩;go_wp2_with fail;go_ret;exact⟨rfl,a.trans f,g⟩
   .have m:IntKind.u8.wrap ((c.toNat:Int)-65)=((c.toNat-65:Nat):Int):=by
     rw[IntWalk.u8_in _ (by omega)];omega
    have v:(n:Int)<=((c.toNat-65:Nat):Int):=by omega
    clear hd
    go_in
    go_wp2_with fail;refine j.out.mono ?_;rintro en w1 ⟨rfl,a,d⟩;go_wp2_with fail;refine(gc b s (i+1) v0 v1 v2 w1 i d).mono ?_;rintro en w2 ⟨rfl,f,g⟩;go_wp2_with fail;go_ret;exact⟨rfl,a.trans f,g⟩
theorem ji (n cap:Nat) (ao:Option Addr) (hn:n<=100) (hs:s.size<=2000) (hR:XrB w b s i bad (.slice ao n cap) v1 v2):
  Calls prog 219 #[.pointer (some ⟨b,0,none⟩)] w λe w'=>e= .returned (.int .u8 (ltX s n i bad).1.toNat)/\But (· =b) w w'/\XrB w' b s (ltX s n i bad).2.1 (ltX s n i bad).2.2 (.slice ao n cap) v1 v2:=by
 have d:=hR.c0
 go_in
 go_wp2_with fail;refine(o8 b s i bad (.slice ao n cap) v1 v2 w n hn hs hR).mono ?_;rintro en w2 ⟨rfl,a,c⟩;go_wp2_with fail;go_ret;exact⟨rfl,a,c⟩
theorem oL (n:Nat) (hn:n<=4) (hs:s.size<=2000) (hR:XrB w b s i bad v0 v1 v2):
  Calls prog 166 #[.pointer (some ⟨b,0,none⟩),.int .i64 n] w λe w'=>e= .returned (.int .u8 (tyX s n i bad).1.toNat)/\But (· =b) w w'/\XrB w' b s (tyX s n i bad).2.1 (tyX s n i bad).2.2 v0 v1 v2:=by
 by_cases h105:(pk s i).toNat=105
 .have e:(((pk s i).toNat:Int)==105)=true:=by rw[dS];omega
  have f:i<s.size:=yw (by omega)
  have a:tyX s n i bad=tbP s i bad:=by
   unfold tyX tbP
   cases bad with
   |true=>simp[h105]
   |false=>rw[if_pos ⟨rfl,by simp[cY,h105]⟩,if_neg (by simp;omega)]
  rw[a];clear h105 a
  go_in
  go_wp2_with fail;refine(ij b s i bad v0 v1 v2 w hR).mono ?_;rintro en w1 ⟨rfl,m,rfl⟩;go_wp2_with fail;refine(bT b s i bad v0 v1 v2 _ hs (hR.drewN m)).mono ?_;rintro en w2 ⟨rfl,c,d⟩;go_wp2_with fail;go_ret;exact⟨rfl,(bp _ _ _).trans c,d⟩
 .have e:(((pk s i).toNat:Int)==105)=false:=by rw[fh];omega
  have a:tyX s n i bad=ltX s n i bad:=by
   unfold tyX ltX;simp[cY,h105]
  rw[a];clear h105 a
  go_in
  go_wp2_with fail;refine(ij b s i bad v0 v1 v2 w hR).mono ?_;rintro en w1 ⟨rfl,m,rfl⟩;go_wp2_with fail;refine(o8 b s i bad v0 v1 v2 _ n (by omega) hs (hR.drewN m)).mono ?_;rintro en w2 ⟨rfl,c,d⟩;go_wp2_with fail;go_ret;exact⟨rfl,(bp _ _ _).trans c,d⟩
theorem uR (n cap:Nat) (ao:Option Addr) (hn:n<=4) (hs:s.size<=2000) (hR:XrB w b s i bad (.slice ao n cap) v1 v2):
  Calls prog 215 #[.pointer (some ⟨b,0,none⟩)] w λe w'=>e= .returned (.int .u8 (paX s n i bad).1.toNat)/\But (· =b) w w'/\XrB w' b s (paX s n i bad).2.1 (paX s n i bad).2.2 (.slice ao n cap) v1 v2:=by
 by_cases h45:(pk s i).toNat=45
 .have e:(((pk s i).toNat:Int)==45)=true:=by rw[dS];omega
  have f:i<s.size:=yw (by omega)
  have a:paX s n i bad=tbP s i bad:=by
   unfold paX tbP
   cases bad with
   |true=>simp[h45]
   |false=>rw[if_pos ⟨rfl,Or.inl h45⟩,if_neg (by simp;omega)]
  rw[a];clear h45 a
  go_in
  go_wp2_with fail;refine(ij b s i bad (.slice ao n cap) v1 v2 w hR).mono ?_;rintro en w1 ⟨rfl,m,rfl⟩;go_wp2_with fail;refine(bT b s i bad (.slice ao n cap) v1 v2 _ hs (hR.drewN m)).mono ?_;rintro en w2 ⟨rfl,c,d⟩;go_wp2_with fail;go_ret;exact⟨rfl,(bp _ _ _).trans c,d⟩
 .have e:(((pk s i).toNat:Int)==45)=false:=by rw[fh];omega
  have a:paX s n i bad=ltX s n i bad:=by
   unfold paX ltX;simp[h45]
  rw[a];clear h45 a
  go_in
  go_wp2_with fail;refine(ij b s i bad (.slice ao n cap) v1 v2 w hR).mono ?_;rintro en w1 ⟨rfl,m,rfl⟩;go_wp2_with fail;refine(ji b s i bad v1 v2 _ n cap ao (by omega) hs (hR.drewN m)).mono ?_;rintro en w2 ⟨rfl,c,d⟩;go_wp2_with fail;go_ret;exact⟨rfl,(bp _ _ _).trans c,d⟩
end
end
section
open Go Go.RowKit Sp
attribute [local go_sem ↓] eF eG
def aU (l:L_):List Value:=l.map λc=> .int .u8 c.toNat
theorem kL:(prog.info? 5).map (λi=>(i.zero,i.size,i.bytes))=some (some (.int .u8 0),1,1):=by kernel_rfl
def BtB (w:World) (base:Nat) (v:Value) (l:L_):Prop:=w.ownsRow base 5 1 v l.length (aU l)
theorem BtB.empty (w:World):BtB (w.alloc (.cells #[] 5)) w.heap.size (.slice (some ⟨w.heap.size,0,none⟩) 0 0) []:=by
 refine⟨rfl,Or.inr ⟨w.heap.size,0,#[],rfl,bG _,bj _ _,bG _,by unfold maxLen;omega,rfl,rfl⟩⟩
theorem BtB.but {F:Nat->Prop} {w w':World} {base:Nat} {v:Value} {l:L_} (h:BtB w base v l) (hb:But F w w') (hf: ∀g,v.ownBlock=some g-> ¬F g):BtB w' base v l:=ah h hb hf
def zF (s:ByteArray) (n:Nat) (e:UInt8) (most:Nat) (R:Except Nat (L_×Nat)) (mm:Nat) (t:L_) (j:Nat) (bad:Bool):Prop:=
 (bad=false/\t.length+mm=most/\tys s n e mm t j=R)\/(bad=true/\mm=0/\R= .error j)
theorem zF.fin {s:ByteArray} {n:Nat} {e:UInt8} {most:Nat} {R:Except Nat (L_×Nat)} {mm:Nat} {t:L_} {j:Nat} {bad:Bool} (h:zF s n e most R mm t j bad) (hx:bad=true\/ ¬t.length<most\/pk s j=e):
  ((tkP s e j bad).2=false/\R= .ok (t,(tkP s e j bad).1))\/((tkP s e j bad).2=true/\R= .error (tkP s e j bad).1):=by
 obtain⟨rfl,b,a⟩ | ⟨rfl,b,a⟩:=h
 .by_cases hp:pk s j=e
  .left
   rw[show tkP s e j false=(j+1,false)from by unfold tkP;rw[if_pos ⟨rfl,hp⟩]];refine⟨rfl,?_⟩;rw[<-a]
   cases mm<;>simp[tys,hp]
  .right
   rw[show tkP s e j false=(j,true)from by unfold tkP;rw[if_neg (λh=>hp h.2)]];refine⟨rfl,?_⟩
   have:mm=0:=by
    obtain h|h|h:=hx
    .cases h
    .omega
    .exact absurd h hp
   subst this;rw[<-a];simp[tys,hp]
 .right
  rw[show tkP s e j true=(j,true)from by unfold tkP;rw[if_neg (by simp)]];exact⟨rfl,a⟩
theorem zF.next {s:ByteArray} {n:Nat} {e:UInt8} {most:Nat} {R:Except Nat (L_×Nat)} {mm:Nat} {t:L_} {j:Nat} (h:zF s n e most R mm t j false) (hl:t.length<most) (hp:pk s j≠e):
  ∃m',m'<mm/\zF s n e most R m' (t++ [(tyX s n j false).1]) (tyX s n j false).2.1 (tyX s n j false).2.2:=by
 obtain⟨_,b,a⟩ | ⟨h,_⟩:=h
 .obtain⟨f,rfl⟩: ∃f,mm=f+1:=⟨mm-1,by omega⟩;simp only[tys,if_neg hp]at a
  by_cases ht:cY n (pk s j)=true
  .rw[show tyX s n j false=(pk s j,j+1,false)from by unfold tyX;rw[if_pos ⟨rfl,ht⟩]];rw[if_pos ht]at a;exact⟨f,by omega,Or.inl ⟨rfl,by simp;omega,a⟩⟩
  .rw[show tyX s n j false=(if(pk s j).toNat=105 then 0 else 45,j,true)from by unfold tyX;rw[if_neg (λh=>ht h.2)]];rw[if_neg ht]at a;exact⟨0,by omega,Or.inr ⟨rfl,rfl,a.symm⟩⟩
 .cases h
section
variable (b:Nat) (s:ByteArray) (i:Nat) (bad:Bool) (v0 v1:Value) (v2:RdV) (w:World)
theorem xg (most n:Nat) (e:UInt8) (he:0<e.toNat) (hm:most<=10) (hn:n<=4) (hs:s.size<=2000) (hR:XrB w b s i false v0 v1 v2):
  Calls prog 216 #[.pointer (some ⟨b,0,none⟩),.int .i64 most,.int .i64 n,.int .u8 e.toNat] w λen w'=>But (· =b) w w'/\ ∃v l j bad',en= .returned v/\XrB w' b s j bad' v0 v1 v2/\BtB w' w.heap.size v l/\l.length<=most/\
   ((bad'=false/\tys s n e most [] i= .ok (l,j))\/(bad'=true/\tys s n e most [] i= .error j)):=by
 obtain⟨R,E⟩: ∃R,tys s n e most [] i=R:=⟨_,rfl⟩;rw[E];have Z:=hid E;clear E;obtain⟨i0,a2,a6,a7,a8⟩:=info_parts kL
 go_in
 go_wp2_with fail;have a0:But (· =b) w (w.alloc (.cells #[] 5)):=ag _ _ _;have a1:XrB (w.alloc (.cells #[] 5)) b s i false v0 v1 v2:=hR.but (ag (λ_=>False) _ _) (λh=>h);have b1:=hR.lt
 go_loopg [9] most (λmm vs wr=> ∃(ao:Option Addr) (cap j:Nat) (bad':Bool) (t:L_),vs= .slice ao t.length cap/\t.length<=most/\But (· =b) w wr/\XrB wr b s j bad' v0 v1 v2/\BtB wr w.heap.size (.slice ao t.length cap) t/\
  Hid (zF s n e most R mm t j bad'))
 case atStart=>exact⟨_,0,i,false,[],rfl,by simp,a0,a1,BtB.empty w,Or.inl ⟨rfl,by simp,Z.out⟩⟩
 case round=>
  obtain⟨ao,cap,j,bad',t,rfl,a5,L,k,d,T⟩:=hrel
  have y: ∀(w1:World),B_ wr w1->(bad'=true\/ ¬t.length<most\/pk s j=e)-> ∀(w2:World),But (· =b) w1 w2->XrB w2 b s (tkP s e j bad').1 (tkP s e j bad').2 v0 v1 v2->
    But (· =b) w w2/\ ∃v l j bad',Ending.returned (Value.slice ao t.length cap)= .returned v/\XrB w2 b s j bad' v0 v1 v2/\BtB w2 w.heap.size v l/\l.length<=most/\((bad'=false/\R= .ok (l,j))\/(bad'=true/\R= .error j)):=by
   intro w1 h1 h2 w2 h3 h4;have r:But (· =b) wr w2:=(h1.mono (λ_ _ h=>h.elim)).trans h3;exact⟨L.trans r,_,t,_,_,rfl,h4,d.but r (λg hg h=>by have:=aC d g hg;omega),a5,T.out.fin h2⟩
  have X:=hid y;clear y
  by_cases hlt:t.length<most
  .have a3:(t.length:Int)<(most:Int):=by omega
   by_cases hgo:bad'=false/\pk s j≠e
   .obtain⟨rfl,G⟩:=hgo;have p:(!false&& !decide (pk s j=e))=true:=by simp[G]
    obtain⟨m',b2,Q⟩:=T.out.next hlt G;have A:=hid Q;have a:=dA b s j false v0 v1 v2 wr e k;rw[p]at a;have z:=hid a;clear p Q a G T X;go_wp2_with fail;refine z.out.mono ?_;rintro en w1 ⟨rfl,m,rfl⟩;go_wp2_with fail;refine(oL b s j false v0 v1 v2 _ n hn hs (k.drewN m)).mono ?_;rintro en w1 ⟨rfl,J,D⟩;revert A D;generalize tyX s n j false=Y;intro A D;obtain⟨c,j',I⟩:=Y;have x:But (· =b) w w1:=(L.trans (bp _ _ _)).trans J;have M:BtB w1 w.heap.size (.slice ao t.length cap) t:=(d.but (bp (· =b) _ _) (λg hg h=>by have:=aC d g hg;omega)).but J (λg hg h=>by have:=aC d g hg;omega);have C:w1.ownsRow w.heap.size 5 1 (.slice ao t.length cap) t.length (aU t):=M
    have b3:=x.size;go_wp2_with (at_builtin;refine wpList_append_lies _ rfl _ _ _ rfl w.heap.size 5 i0 _ 1 1 (by kernel_rfl) a2 a6 a7 a8 rfl (by omega) _ t.length (aU t) rfl (C.alloc _) ⟨w1.heap.size,0,none⟩ 1 1 [.int .u8 c.toNat] rfl rfl (iO (cs:=#[.int .u8 c.toNat]) (t:=5) (fr:=(0,0)) (bj w1 _)) (by simp[Value.oneCell']) (by omega) (by unfold maxLen;omega) (by omega) (by simp;omega) (w1.heap.size+1) (by simp) ?_);intro gg q w2 H F b0 a4;have S:But (λk'=>(Value.slice ao t.length cap).ownBlock=some k') w1 w2:=(ag _ _ _).trans (bD F);have P:But (· =b) w w2:=x.next S (λk' hk' h=>absurd (aC C k' h) (by omega))
    have f:=D.but S (λh=>by have:=aC C _ h;omega)
    have O:BtB w2 w.heap.size (.slice (some ⟨gg,0,none⟩) (t++ [c]).length q) (t++ [c]):=by
     unfold BtB;rw[aV,aU,List.map_append];exact H
    go_wp2_with fail
    go_roundg m'
    case measure=>omega
    case rel=>exact⟨_,q,j',I,t++ [c],by simp,by simp;omega,P,f,O,A.out⟩
   .have p:(!bad'&& !decide (pk s j=e))=false:=by
     cases bad' with
     |true=>rfl
     |false=>
      have:pk s j=e:=by
       by_cases h:pk s j=e
       .exact h
       .exact absurd ⟨rfl,h⟩ hgo
      simp[this]
    have hx:bad'=true\/ ¬t.length<most\/pk s j=e:=by
     cases bad' with
     |true=>exact Or.inl rfl
     |false=>
      right;right
      by_cases h:pk s j=e
      .exact h
      .exact absurd ⟨rfl,h⟩ hgo
    have HX:=hid hx;have a:=dA b s j bad' v0 v1 v2 wr e k;rw[p]at a;have z:=hid a;clear p a hx hgo T;go_wp2_with fail;refine z.out.mono ?_;rintro en w1 ⟨rfl,m,rfl⟩;go_wp2_with fail;refine(eJ b s j bad' v0 v1 v2 _ e he hs (k.drewN m)).mono ?_;rintro en w2 ⟨rfl,B,f⟩;go_wp2_with fail;exact cV (.slice ao t.length cap) results216 rfl rfl (X.out _ (bp _ _ _) HX.out w2 B f)
  .have a3: ¬(t.length:Int)<(most:Int):=by omega
   go_wp2_with fail;refine(eJ b s j bad' v0 v1 v2 _ e he hs k).mono ?_;rintro en w2 ⟨rfl,B,f⟩;go_wp2_with fail;exact cV (.slice ao t.length cap) results216 rfl rfl (X.out _ (cq _ _) (Or.inr (Or.inl hlt)) w2 B f)
end
structure bP where
 par:UInt8
 fields:L_
def iS (l:List (bP×Value)):List Value:=l.flatMap λx=> [.int .u8 x.1.par.toNat,x.2]
theorem qi {l:List (bP×Value)} {j k:Nat} {x:bP×Value} (h:l[j]?=some x) (hk:k<2):(iS l)[j*2+k]?=[Value.int .u8 x.1.par.toNat,x.2][k]?:=
 me (λx:bP×Value=> [Value.int .u8 x.1.par.toNat,x.2]) 2 (λ_=>rfl) l j k x h hk
theorem jD {l:List (bP×Value)} {j:Nat} {x:bP×Value} (h:l[j]?=some x):(iS l)[j*2]?=some (.int .u8 x.1.par.toNat):=qi (k:=0) h (by omega)
theorem jE {l:List (bP×Value)} {j:Nat} {x:bP×Value} (h:l[j]?=some x):(iS l)[j*2+1]?=some x.2:=qi (k:=1) h (by omega)
def TxC (w:World) (b:Nat) (cs:List bP):Prop:=
 ∃v0 l,w.cell? ⟨b,0,none⟩=some v0/\b<w.heap.size/\w.ownsRow 0 240 2 v0 l.length (iS l)/\l.map (·.1)=cs/\ ∀x∈l,BtB w 0 x.2 x.1.fields
theorem TxC.but {w w':World} {b:Nat} {cs:List bP} (h:TxC w b cs) (hb:B_ w w'):TxC w' b cs:=by
 obtain⟨v0,l,a,hl,c,hm,d⟩:=h;exact⟨v0,l,hb.kc a hl,aP hl hb.size,ah c hb (λ_ _ h=>h),hm,λx hx=>(d x hx).but hb (λ_ _ h=>h)⟩
def xh (n:Nat) (c:UInt8):Int:=if aQ n c=true then(c.toNat:Int)-65 else-1
theorem nK (b:Nat) (cs:List bP) (c:UInt8) (w:World) (hn:cs.length<=100) (hT:TxC w b cs):
  Calls prog 209 #[.pointer (some ⟨b,0,none⟩),.int .u8 c.toNat] w λe w'=>e= .returned (.int .i64 (xh cs.length c))/\w'=w:=by
 obtain⟨v0,l,j,hl,h,hm,k⟩:=hT;obtain⟨ao,cap,rfl⟩:=aA h;have d:l.length=cs.length:=by rw[<-hm];simp
 rw[d]at j;have g:c.toNat<256:=c.toNat_lt;obtain⟨R,a⟩: ∃R,xh cs.length c=R:=⟨_,rfl⟩;rw[a];unfold xh at a;generalize cs.length=n at*;clear hm k h d
 by_cases a1:(c.toNat:Int)<65
 .rw[if_neg (by simp[aQ];omega)]at a;subst a
  go_in
  go_wp2
  go_ret;exact⟨rfl,rfl⟩
 .have i:IntKind.u8.wrap ((c.toNat:Int)-65)=((c.toNat-65:Nat):Int):=by
   rw[IntWalk.u8_in _ (by omega)];omega
  by_cases a2:(n:Int)<=((c.toNat-65:Nat):Int)
  .rw[if_neg (by simp[aQ];omega)]at a;subst a
   go_in
   go_wp2
   go_ret;exact⟨rfl,rfl⟩
  .rw[if_pos (by simp[aQ];omega)]at a;have f:((c.toNat-65:Nat):Int)=R:=by omega
   subst f;clear a
   go_in
   go_wp2
   go_ret;exact⟨rfl,rfl⟩
theorem kM (n:Nat) (c:UInt8):(aQ n c=false/\xh n c= -1)\/(aQ n c=true/\ ∃k:Nat,k<n/\xh n c=k/\c.toNat=65+k):=by
 cases h:aQ n c with
 |false=>exact Or.inl ⟨rfl,by unfold xh;rw[h];rfl⟩
 |true=>
  right
  refine⟨rfl,c.toNat-65,?_⟩;have h':=h;simp only[aQ,dl,dk]at h';unfold xh;rw[h];refine⟨by omega,?_,by omega⟩;simp;omega
theorem iT (b:Nat) (cs:List bP) (c:UInt8) (w:World) (hn:cs.length<=100) (hT:TxC w b cs):
  Calls prog 206 #[.pointer (some ⟨b,0,none⟩),.int .u8 c.toNat] w λe w'=>e= .returned (.bool (aQ cs.length c))/\w'=w:=by
 have hc:=nK b cs c w hn hT;obtain⟨a,d⟩ | ⟨a,k,i,d,g⟩:=kM cs.length c
 .rw[d]at hc;rw[a];have f:=hid hc;clear hc a d
  go_in
  go_wp2_with fail;refine f.out.mono ?_;rintro en w1 ⟨rfl,rfl⟩;go_wp2_with fail;go_ret;exact⟨rfl,rfl⟩
 .rw[d]at hc;rw[a];have f:=hid hc;have h:(0:Int)<=(k:Int):=by omega
  clear hc a d g
  go_in
  go_wp2_with fail;refine f.out.mono ?_;rintro en w1 ⟨rfl,rfl⟩;go_wp2_with fail;go_ret;exact⟨rfl,rfl⟩
def kN (cs:List bP) (c:UInt8):UInt8:=if aQ cs.length c=true then(cs[c.toNat-65]?.map (·.par)).getD 45 else 45
def bV (cs:List bP) (c:UInt8):L_:=if aQ cs.length c=true then(cs[c.toNat-65]?.map (·.fields)).getD []else []
theorem qj (b:Nat) (cs:List bP) (c:UInt8) (w:World) (hn:cs.length<=100) (hT:TxC w b cs):
  Calls prog 240 #[.pointer (some ⟨b,0,none⟩),.int .u8 c.toNat] w λe w'=>e= .returned (.int .u8 (kN cs c).toNat)/\w'=w:=by
 have hc:=nK b cs c w hn hT;obtain⟨d,f⟩ | ⟨d,k,B,f,r⟩:=kM cs.length c
 .rw[f]at hc;rw[show kN cs c=45 from by unfold kN;rw[d];rfl];have j:=hid hc;clear hc d f
  go_in
  go_wp2_with fail;refine j.out.mono ?_;rintro en w1 ⟨rfl,rfl⟩;go_wp2_with fail;go_ret;exact⟨rfl,rfl⟩
 .rw[f]at hc;obtain⟨v0,l,A,hl,p,hm,q⟩:=hT;have n:l.length=cs.length:=by rw[<-hm];simp
  obtain⟨x,hx⟩: ∃x,l[k]?=some x:=⟨_,aM (by omega)⟩
  have h:kN cs c=x.1.par:=by
   unfold kN;rw[if_pos d,show c.toNat-65=k from by omega,<-hm,cg,hx]
   rfl
  rw[h];obtain⟨ao,cap,rfl⟩:=aA p;obtain⟨g,rfl,s,t,a⟩:=aL p (by omega);have y:=a _ _ (jD hx);have z:=a _ _ (jE hx);have m:=q x (a9 hx);obtain⟨x1,x2⟩:=x;obtain⟨af,capf,i⟩:=aA m;simp only at i y z;subst i;have v:(k:Int)<(l.length:Int):=by omega
  have j:=hid hc;clear hc d f r h a hm q hx n
  go_in
  go_wp2_with fail;refine j.out.mono ?_;rintro en w1 ⟨rfl,rfl⟩;go_wp2_with fail;go_ret;exact⟨rfl,rfl⟩
theorem nM (b:Nat) (cs:List bP) (c:UInt8) (w:World) (hn:cs.length<=100) (hT:TxC w b cs):
  Calls prog 157 #[.pointer (some ⟨b,0,none⟩),.int .u8 c.toNat] w λe w'=>e= .returned (.int .i64 (bV cs c).length)/\w'=w:=by
 have hc:=nK b cs c w hn hT;obtain⟨d,f⟩ | ⟨d,k,B,f,r⟩:=kM cs.length c
 .rw[f]at hc;rw[show bV cs c=[]from by unfold bV;rw[d];rfl];have j:=hid hc;clear hc d f
  go_in
  go_wp2_with fail;refine j.out.mono ?_;rintro en w1 ⟨rfl,rfl⟩;go_wp2_with fail;go_ret;exact⟨rfl,rfl⟩
 .rw[f]at hc;obtain⟨v0,l,A,hl,p,hm,q⟩:=hT;have n:l.length=cs.length:=by rw[<-hm];simp
  obtain⟨x,hx⟩: ∃x,l[k]?=some x:=⟨_,aM (by omega)⟩
  have h:bV cs c=x.1.fields:=by
   unfold bV;rw[if_pos d,show c.toNat-65=k from by omega,<-hm,cg,hx]
   rfl
  rw[h];obtain⟨ao,cap,rfl⟩:=aA p;obtain⟨g,rfl,s,t,a⟩:=aL p (by omega);have y:=a _ _ (jD hx);have z:=a _ _ (jE hx);have m:=q x (a9 hx);obtain⟨x1,x2⟩:=x;obtain⟨af,capf,i⟩:=aA m;simp only at i y z;subst i;have v:(k:Int)<(l.length:Int):=by omega
  have j:=hid hc;clear hc d f r h a hm q hx n
  go_in
  go_wp2_with fail;refine j.out.mono ?_;rintro en w1 ⟨rfl,rfl⟩;go_wp2_with fail;go_ret;exact⟨rfl,rfl⟩
def cC (l:L_) (k:Nat):UInt8:=if k<l.length then l.getD k 0 else 45
theorem dR {l:L_} {k:Nat} (h:k<l.length):(aU l)[k]?=some (.int .u8 (l.getD k 0).toNat):=by
 simp[aU,List.getD,h]
theorem d8 (ao:Option Addr) (cap:Nat) (l:L_) (k:Nat) (w:World) (hB:BtB w 0 (.slice ao l.length cap) l):
  Calls prog 151 #[.slice ao l.length cap,.int .i64 k] w λe w'=>e= .returned (.int .u8 (cC l k).toNat)/\w'=w:=by
 have h: ¬(k:Int)<0:=by omega
 by_cases hk:k<l.length
 .rw[show cC l k=l.getD k 0 from by unfold cC;rw[if_pos hk]];obtain⟨g,rfl,d,f,a⟩:=aL hB (by omega);have q:=a _ _ (dR hk);have b: ¬(l.length:Int)<=(k:Int):=by omega
  have i:(k:Int)<(l.length:Int):=by omega
  revert q;generalize l.getD k 0=c;intro q;clear a hB
  go_in
  go_wp2
  go_ret;exact⟨rfl,rfl⟩
 .rw[show cC l k=45 from by unfold cC;rw[if_neg hk]];have b:(l.length:Int)<=(k:Int):=by omega
  clear hB
  go_in
  go_wp2
  go_ret;exact⟨rfl,rfl⟩
theorem tj (b:Nat) (cs:List bP) (c:UInt8) (f:Nat) (w:World) (hn:cs.length<=100) (hT:TxC w b cs):
  Calls prog 190 #[.pointer (some ⟨b,0,none⟩),.int .u8 c.toNat,.int .i64 f] w λe w'=>e= .returned (.int .u8 (cC (bV cs c) f).toNat)/\w'=w:=by
 have hc:=nK b cs c w hn hT;obtain⟨h,i⟩ | ⟨h,k,C,i,s⟩:=kM cs.length c
 .rw[i]at hc;rw[show cC (bV cs c) f=45 from by unfold cC bV;rw[h];simp];have n:=hid hc;clear hc h i
  go_in
  go_wp2_with fail;refine n.out.mono ?_;rintro en w1 ⟨rfl,rfl⟩;go_wp2_with fail;go_ret;exact⟨rfl,rfl⟩
 .rw[i]at hc;obtain⟨v0,l,B,hl,q,hm,r⟩:=hT;have p:l.length=cs.length:=by rw[<-hm];simp
  obtain⟨x,hx⟩: ∃x,l[k]?=some x:=⟨_,aM (by omega)⟩
  have j:bV cs c=x.1.fields:=by
   unfold bV;rw[if_pos h,show c.toNat-65=k from by omega,<-hm,cg,hx]
   rfl
  rw[j];obtain⟨ao,cap,rfl⟩:=aA q;obtain⟨g,rfl,t,v,a⟩:=aL q (by omega);have z:=a _ _ (jD hx);have A:=a _ _ (jE hx);have d:=r x (a9 hx);obtain⟨x1,x2⟩:=x;obtain⟨af,capf,m⟩:=aA d;simp only at m z A d;subst m;have y:(k:Int)<(l.length:Int):=by omega
  have n:=hid hc;have HT:=hid (d8 af capf x1.fields f w d);clear hc h i s j a hm r hx p d
  go_in
  go_wp2_with fail;refine n.out.mono ?_;rintro en w1 ⟨rfl,rfl⟩;go_wp2_with fail;refine HT.out.mono ?_;rintro en w1 ⟨rfl,rfl⟩;go_wp2_with fail;go_ret;exact⟨rfl,rfl⟩
def dT (cs:List bP) (anc:UInt8):Nat->UInt8->Bool
 |0,_=>false
 |f+1,c=>if aQ cs.length c=false then false else if c=anc then true else dT cs anc f (kN cs c)
theorem qm (b:Nat) (cs:List bP) (a c:UInt8) (w:World) (hn:cs.length<=100) (hT:TxC w b cs):
  Calls prog 207 #[.pointer (some ⟨b,0,none⟩),.int .u8 a.toNat,.int .u8 c.toNat] w λe w'=>e= .returned (.bool (dT cs c cs.length a))/\w'=w:=by
 obtain⟨R,p⟩: ∃R,dT cs c cs.length a=R:=⟨_,rfl⟩;rw[p];have f:=hid p;clear p;have z:=hT;obtain⟨v0,l,D,hl,E,hm,F⟩:=z;obtain⟨ao,cap,rfl⟩:=aA E;have t:l.length=cs.length:=by rw[<-hm];simp
 rw[t]at D;clear hm F E t;obtain⟨n,r⟩: ∃n,cs.length=n:=⟨_,rfl⟩;have v:=hid r;rw[r]at D hn;clear r
 go_in
 go_wp2_with fail;rw[v.out]at f
 go_loopg [7,8] n (λmm ls is wr=> ∃(x:UInt8) (k:Nat),ls= .int .u8 x.toNat/\is= .int .i64 k/\k<=n/\k+mm<=n/\n<=k+mm/\B_ w wr/\wr=w/\Hid (dT cs c mm x=R))
 case atStart=>exact⟨a,0,rfl,rfl,by omega,by omega,by omega,cq _ _,rfl,f.out⟩
 case round=>
  obtain⟨x,k,rfl,rfl,G,A,H,_,C,i⟩:=hrel;subst C;have s:gk=n-k:=by omega
  rw[s]at i;clear s A
  by_cases hlt:k<n
  .have B:(k:Int)<(n:Int):=by omega
   rw[show n-k=(n-(k+1))+1 from by omega]at i;have d:=iT b cs x wr (by rw[v.out];exact hn) hT
   by_cases hl:aQ cs.length x=true
   .rw[hl]at d;have j:=hid d;have g:=i.out;simp only[dT,hl,Bool.true_eq_false,if_false]at g
    by_cases hxc:x=c
    .rw[if_pos hxc]at g;have e:((x.toNat:Int)==(c.toNat:Int))=true:=by rw[hxc];simp
     have y:((x.toNat:Int)=(c.toNat:Int)):=by rw[hxc]
     have I:=hid y;subst g;clear d hl hxc i y f;go_wp2_with fail;refine j.out.mono ?_;rintro en w1 ⟨rfl,rfl⟩;go_wp2_with fail;go_ret;exact⟨rfl,rfl⟩
    .rw[if_neg hxc]at g;have e:((x.toNat:Int)==(c.toNat:Int))=false:=by rw[fh];intro h;exact hxc (ck (by omega))
     have y: ¬((x.toNat:Int)=(c.toNat:Int)):=by simpa using e
     have m:=hid g;clear d hl hxc i g f;go_wp2_with fail;refine j.out.mono ?_;rintro en w1 ⟨rfl,rfl⟩;go_wp2_with fail;refine(qj b cs x w1 (by rw[v.out];exact hn) hT).mono ?_;rintro en w2 ⟨rfl,rfl⟩;revert m;generalize kN cs x=px;intro m;go_wp2_with fail
     go_roundg (n-(k+1))
     case measure=>omega
     case rel=>exact⟨px,k+1,rfl,by simp,by omega,by omega,by omega,cq _ _,rfl,m.out⟩
   .have q:aQ cs.length x=false:=by simpa using hl
    rw[q]at d;have j:=hid d;have g:=i.out;simp only[dT,q,if_true]at g;subst g;clear d hl q i f;go_wp2_with fail;refine j.out.mono ?_;rintro en w1 ⟨rfl,rfl⟩;go_wp2_with fail;go_ret;exact⟨rfl,rfl⟩
  .have B: ¬(k:Int)<(n:Int):=by omega
   rw[show n-k=0 from by omega]at i;have g:false=R:=i.out;subst g;clear i f;go_wp2_with fail;go_ret;exact⟨rfl,rfl⟩
def fQ (cs:List bP) (a c:UInt8):Bool:=
 if a=c\/c.toNat=45 then true else if a.toNat=122 then aQ cs.length c else dT cs c cs.length a
theorem ml (b:Nat) (cs:List bP) (a c:UInt8) (w:World) (hn:cs.length<=100) (hT:TxC w b cs):
  Calls prog 150 #[.pointer (some ⟨b,0,none⟩),.int .u8 a.toNat,.int .u8 c.toNat] w λe w'=>e= .returned (.bool (fQ cs a c))/\w'=w:=by
 by_cases h1:a=c
 .rw[show fQ cs a c=true from by unfold fQ;rw[if_pos (Or.inl h1)]];have e:((a.toNat:Int)==(c.toNat:Int))=true:=by rw[h1];simp
  clear h1
  go_in
  go_wp2_with fail;go_ret;exact⟨rfl,rfl⟩
 have e:((a.toNat:Int)==(c.toNat:Int))=false:=by rw[fh];intro h;exact h1 (ck (by omega))
 by_cases h2:c.toNat=45
 .rw[show fQ cs a c=true from by unfold fQ;rw[if_pos (Or.inr h2)]];have d:((c.toNat:Int)==45)=true:=by rw[dS];omega
  clear h1 h2
  go_in
  go_wp2_with fail;go_ret;exact⟨rfl,rfl⟩
 have d:=tf c.toNat 45 (by omega)
 by_cases h3:a.toNat=122
 .rw[show fQ cs a c=aQ cs.length c from by unfold fQ;rw[if_neg (not_or.2 ⟨h1,h2⟩),if_pos h3]];have f:((a.toNat:Int)==122)=true:=by rw[dS];omega
  clear h1 h2 h3
  go_in
  go_wp2_with fail;refine(iT b cs c w hn hT).mono ?_;rintro en w1 ⟨rfl,rfl⟩;go_wp2_with fail;go_ret;exact⟨rfl,rfl⟩
 .rw[show fQ cs a c=dT cs c cs.length a from by unfold fQ;rw[if_neg (not_or.2 ⟨h1,h2⟩),if_neg h3]];have f:=tf a.toNat 122 (by omega);clear h1 h2 h3
  go_in
  go_wp2_with fail;refine(qm b cs a c w hn hT).mono ?_;rintro en w1 ⟨rfl,rfl⟩;go_wp2_with fail;go_ret;exact⟨rfl,rfl⟩
end
end Go.Proofs.YtpfkkmacakjmbaaGreatDoor
