import Derived.Test.YtpfkkmacakjmbaaGreatDoorP23
set_option maxRecDepth 100000
set_option maxHeartbeats 6400000
set_option linter.unusedSimpArgs false
set_option linter.unusedVariables false
namespace Go.Proofs.YtpfkkmacakjmbaaGreatDoor
section
open Go Go.RowKit Sp
section
variable {im:Img} {bd:Bod}
structure AZ (im:Img) (bd:Bod) (q:Nat) (ty:List UInt8):Prop where
 len:ty.length=bd.code.length
 at': ∀k,q≤k→k<bd.code.length→bY im.classes im.sigs bd.locals bd.code bd.code.length k=some (ty.getD k 0)∧(ty.getD k 0).toNat≠45
theorem yp (hW:gn im) (hbd:jX im.classes im.sigs bd) {p:Nat} {ty:List UInt8} (h:AZ im bd (p+1) ty) (hp:p<bd.code.length):
  (stepX (im.classes.map toX) im.sigs bd.locals bd.code p ty=none∧bY im.classes im.sigs bd.locals bd.code bd.code.length p=none)∨ ∃ty',stepX (im.classes.map toX) im.sigs bd.locals bd.code p ty=some ty'∧AZ im bd p ty':=by
 have hy:=List.getElem?_eq_getElem hp;obtain⟨y,a6⟩: ∃y,bd.code[p]=y:=⟨_,rfl⟩;rw[a6]at hy;have a1: ∀k,k∈dw bd.code p→bM ty k=ty.getD k 0:=fun k hk=>mJ (by rw[h.len];exact(gd hk).2)
 have a0:bQ bd.code (bY im.classes im.sigs bd.locals bd.code bd.code.length) (az y.op) (p+1)=some ((dw bd.code p).map (bM ty)):=by
  have e:dw bd.code p=cr bd.code (az y.op) (p+1):=by unfold dw;rw[hy]
  rw[e];refine tU ?_ ?_
  ·rw[←e];exact r9 hbd.full hy
  ·intro q hq;rw[←e]at hq;have hm:=gd hq;rw[a1 q hq];exact(h.at' q (by omega) hm.2).1
 have a5:=hbd.code y (List.mem_of_getElem? hy)
 have a4:=yo hW hbd a5 (ts:=(dw bd.code p).map (bM ty)) (by rw[List.length_map];exact r9 hbd.full hy) (fun c hc=>by
  obtain⟨q,hq,rfl⟩:=List.mem_map.1 hc;rw[a1 q hq];exact uK hW hbd (h.at' q (by have:=(gd hq).1;omega) (gd hq).2).1) (fun c hc=>by
  obtain⟨q,hq,rfl⟩:=List.mem_map.1 hc;rw[a1 q hq];exact(h.at' q (by have:=(gd hq).1;omega) (gd hq).2).2)
 have a3:bY im.classes im.sigs bd.locals bd.code bd.code.length p=cy (im.classes.map toX) im.sigs bd.locals y ((dw bd.code p).map (bM ty)):=by
  rw[po hy,a0,a4]
 unfold stepX;rw[hy];simp only
 cases hx:cy (im.classes.map toX) im.sigs bd.locals y ((dw bd.code p).map (bM ty))with
 |none=>exact Or.inl ⟨rfl,by rw[a3,hx]⟩
 |some c=>
  right
  have a2:c.toNat≠45:=by
   unfold cy at hx
   split at hx
   ·rename_i hh
    cases hx
    exact hh.2
   ·cases hx
  refine⟨ty.set p c,rfl,by rw[List.length_set];exact h.len,fun k h1 h2=> ?_⟩
  by_cases hk:p=k
  ·subst hk;have e:(ty.set p c).getD p 0=c:=by simp[List.getD,h.len,hp]
   rw[e,a3,hx];exact⟨rfl,a2⟩
  ·have e:(ty.set p c).getD k 0=ty.getD k 0:=by simp[List.getD,List.getElem?_set_ne hk]
   rw[e];exact h.at' k (by omega) h2
theorem A2 (hW:gn im) (hbd:jX im.classes im.sigs bd):okT im.classes.length (aN im.sigs bd).ans=true∧(aN im.sigs bd).ans=if bd.cls<0 then 105 else fh im.sigs bd.meth.toNat:=by
 rcases hbd.cls with⟨h1,_⟩ | ⟨h1,h2,h3,h4⟩
 ·simp[aN,h1,rA]
 ·have hn: ¬bd.cls<0:=by omega
  have hm:bd.meth.toNat<im.sigs.length:=by omega
  have e:=(kZ hm).2;simp only[aN,hn,if_false,e,and_true];unfold fh;rw[List.getElem?_eq_getElem hm];exact jr (hW.sig _ (List.getElem_mem hm)).2
theorem zS (hW:gn im) (hbd:jX im.classes im.sigs bd): ∀{q:Nat} {ty:List UInt8},q≤bd.code.length→AZ im bd q ty→qx (im.classes.map toX) (aN im.sigs bd).ans (mC (im.classes.map toX) im.sigs bd.locals bd.code q ty)=fP im bd:=by
 intro q
 induction q with
 |zero=>
  intro ty _ h;have h0:=rz (m:=0) hbd.full;obtain⟨e1,e2⟩:=h.at' 0 (Nat.le_refl _) h0;obtain⟨a1,a2⟩:=A2 hW hbd;simp only[mC,qx,fP,e1];rw[mJ (by rw[h.len];exact h0),fW hW.cls hW.nc (uK hW hbd e1) a1,a2]
 |succ p ih=>
  intro ty hq h;rcases yp hW hbd h (by omega)with⟨h1,h2⟩ | ⟨ty',h1,h2⟩
  ·simp only[mC,h1,qx,fP]
   have hr:bY im.classes im.sigs bd.locals bd.code bd.code.length 0=none:=by
    cases hr:bY im.classes im.sigs bd.locals bd.code bd.code.length 0 with
    |none=>rfl
    |some c=>exact absurd h2 (ym hbd.full (by rw[hr];simp) p (by omega))
   rw[hr]
  ·simp only[mC,h1];exact ih (by omega) h2
theorem zT (hW:gn im) (hbd:jX im.classes im.sigs bd):yn (im.classes.map toX) im.sigs bd.locals bd.code (aN im.sigs bd).ans=fP im bd:=by
 unfold yn;exact zS hW hbd (Nat.le_refl _) ⟨by simp,fun k h1 h2=>by omega⟩
end
end
section
open Go Go.RowKit Sp
attribute [local go_sem ↓] Go.wp_at_zero Go.wp_at_succ
theorem dC.but {w w':World} {g:Nat} {im:Img} (h:dC w g im) (hb:But (fun _=>False) w w'):dC w' g im:=by
 obtain⟨bs,h1,h2⟩:=h.bod;exact⟨h.cls.but hb,h.met.but hb,bs,h1.but hb,h2.but hb (fun _ _ _ _ h=>h)⟩
theorem wm (g:Nat) (im:Img) (w:World) (hW:gn im) (hTX:dC w g im):
  Calls Tryz.prog 64 #[.pointer (some ⟨g,0,none⟩),.int .i64 (-1)] w fun en w'=>But (fun _=>False) w w'∧en= .returned (eR g im):=by
 have a5:But (fun _=>False) w (w.alloc (.cells #[.int .i64 0,.int .i64 0,.pointer none,.slice none 0 0] 60)):=But.alloc _ _ _;have a0:=heap_alloc_new w (.cells #[.int .i64 0,.int .i64 0,.pointer none,.slice none 0 0] 60)
 cases hfs:im.bodies.findSome? (fun b=>unl im.classes im.bodies b.code)with
 |some q=>
  have e1:((q:Int)== -1)=false:=by rw[beq_eq_false_iff_ne];omega
  have e2:((q:Int)!= -1)=true:=by simp[bne,e1]
  have b0: ¬(q:Int)= -1:=by omega
  have a4:=nS g im (w.alloc (.cells #[.int .i64 0,.int .i64 0,.pointer none,.slice none 0 0] 60)) hW (hTX.but a5);rw[hfs]at a4;simp only[ky]at a4;rw[show eR g im= .agg #[.int .i64 3,.int .i64 q,.pointer none,.slice none 0 0]from by unfold eR;rw[hfs]];have a1:=hid a4;clear a4 hfs
  go_in
  go_wp2_with fail;revert a5 a0 a1;generalize (w.alloc (.cells #[.int .i64 0,.int .i64 0,.pointer none,.slice none 0 0] 60))=W;intro a5 a0 a1;have a9:=ae a0;refine a1.out.mono ?_;rintro en w2 ⟨rfl,a7⟩;have a6:=a5.trans a7;have a3:=(a7.block w.heap.size a9 (fun h=>h)).trans a0;have a8:=hid a3;obtain⟨q0,q1,q2,q3⟩:=dT a3;obtain⟨f0,f1,f2,f3⟩:=gK a3;clear a3 a0 a1;go_wp2_with fail;have h9:=dW a8.out (.int .i64 3) (.int .i64 q) (.pointer none) (.slice none 0 0);have a2:=eJ w2 w.heap.size (.int .i64 3) (.int .i64 q) (.pointer none) (.slice none 0 0);unfold nB at h9 a2;revert h9 a2;generalize ((((w2.setCell ⟨w.heap.size,0,none⟩ (.int .i64 3)).setCell ⟨w.heap.size,1,none⟩ (.int .i64 q)).setCell ⟨w.heap.size,2,none⟩ (.pointer none)).setCell ⟨w.heap.size,3,none⟩ (.slice none 0 0))=w9
  intro h9 a2;obtain⟨r0,r1,r2,r3⟩:=dT h9;exact bodyPost_ret (v:= .agg #[.int .i64 3,.int .i64 q,.pointer none,.slice none 0 0]) (by simp[results,Tryz.results64,go_sem,r0,r1,r2,r3]) rfl ⟨a6.next a2 (fun k hk h=>by omega),rfl⟩
 |none=>
  have a4:=nS g im (w.alloc (.cells #[.int .i64 0,.int .i64 0,.pointer none,.slice none 0 0] 60)) hW (hTX.but a5);rw[hfs]at a4;simp only[ky]at a4;rw[show eR g im= .agg #[.int .i64 0,.int .i64 0,.pointer (some ⟨g,0,none⟩),.slice none 0 0]from by unfold eR;rw[hfs]];have a1:=hid a4;clear a4 hfs
  go_in
  go_wp2_with fail;revert a5 a0 a1;generalize (w.alloc (.cells #[.int .i64 0,.int .i64 0,.pointer none,.slice none 0 0] 60))=W;intro a5 a0 a1;have a9:=ae a0;refine a1.out.mono ?_;rintro en w2 ⟨rfl,a7⟩;have a6:=a5.trans a7;have a3:=(a7.block w.heap.size a9 (fun h=>h)).trans a0;have a8:=hid a3;obtain⟨q0,q1,q2,q3⟩:=dT a3;obtain⟨f0,f1,f2,f3⟩:=gK a3;clear a3 a0 a1;go_wp2_with fail;have h9:=dW a8.out (.int .i64 0) (.int .i64 0) (.pointer (some ⟨g,0,none⟩)) (.slice none 0 0);have a2:=eJ w2 w.heap.size (.int .i64 0) (.int .i64 0) (.pointer (some ⟨g,0,none⟩)) (.slice none 0 0);unfold nB at h9 a2;revert h9 a2
  generalize ((((w2.setCell ⟨w.heap.size,0,none⟩ (.int .i64 0)).setCell ⟨w.heap.size,1,none⟩ (.int .i64 0)).setCell ⟨w.heap.size,2,none⟩ (.pointer (some ⟨g,0,none⟩))).setCell ⟨w.heap.size,3,none⟩ (.slice none 0 0))=w9;intro h9 a2;obtain⟨r0,r1,r2,r3⟩:=dT h9;exact bodyPost_ret (v:= .agg #[.int .i64 0,.int .i64 0,.pointer (some ⟨g,0,none⟩),.slice none 0 0]) (by simp[results,Tryz.results64,go_sem,r0,r1,r2,r3]) rfl ⟨a6.next a2 (fun k hk h=>by omega),rfl⟩
theorem dC.off {F:Nat→Prop} {w w':World} {g:Nat} {im:Img} (h:dC w g im) (hb:But F w w') (hg: ¬F g) (hf: ∀k cur e,w.heap[k]?=some (.cells cur e)→(e=240∨e=243∨e=115∨e=219∨e=5∨e=3)→ ¬F k):dC w' g im:=by
 obtain⟨⟨v0,l,h0,hl,hO,hm,a2⟩,⟨v1,h1,_,a1⟩,bs,⟨v2,h2,_,hT⟩,a0⟩:=h;refine⟨⟨v0,l,(hb.cell (p:=⟨g,0,none⟩) hl hg).trans h0,Nat.lt_of_lt_of_le hl hb.size,aY hO hb (fun k cur hh _=>hf k cur _ hh (by simp)),hm,fun x hx=>aY (a2 x hx) hb (fun k cur hh _=>hf k cur _ hh (by simp))⟩,⟨v1,(hb.cell (p:=⟨g,1,none⟩) hl hg).trans h1,Nat.lt_of_lt_of_le hl hb.size,aY a1 hb (fun k cur hh _=>hf k cur _ hh (by simp))⟩,bs,⟨v2,(hb.cell (p:=⟨g,2,none⟩) hl hg).trans h2,Nat.lt_of_lt_of_le hl hb.size,hT.but hb (fun k e cur hh he _=>hf k cur e hh (by rcases he with h|h|h<;>simp[h]))⟩,a0.but hb (fun k cur hh _=>hf k cur _ hh (by simp))⟩
def ke (s:ByteArray) (w:World) (en:Ending) (w':World):Prop:=
 match dR s with
 | .error (e,p)=>en= .returned (.agg #[.int .i64 e,.int .i64 p,.pointer none,.slice none 0 0])
 | .ok im=>
  match im.bodies.findIdx? (fun b=> !fP im b)with
  |some k=>en= .returned (.agg #[.int .i64 4,.int .i64 k,.pointer none,.slice none 0 0])
  |none=> ∃g,en= .returned (.agg #[.int .i64 0,.int .i64 0,.pointer (some ⟨g,0,none⟩),.slice none 0 0])∧gn im∧dC w' g im
theorem gY (s:ByteArray) (w:World) (hmax:s.size≤maxLen):
  Calls Tryz.prog 60 #[.string s] w fun en w'=>But (fun _=>False) w w'∧ke s w en w':=by
 have h0:But (fun _=>False) w (w.alloc (.cells #[.int .i64 0,.int .i64 0,.pointer none,.slice none 0 0] 60)):=But.alloc _ _ _;have f4:=heap_alloc_new w (.cells #[.int .i64 0,.int .i64 0,.pointer none,.slice none 0 0] 60)
 by_cases hbig:400<s.size
 ·have l5:400<(s.size:Int):=by omega
  have hL:dR s= .error (1,0):=by unfold dR;rw[if_pos hbig]
  have HL:=hid hL;clear hbig hL
  go_in
  go_wp2_with fail;have h9:=heap_alloc_new w (.cells #[.int .i64 1,.int .i64 0,.pointer none,.slice none 0 0] 60);have a0:But (fun _=>False) w (w.alloc (.cells #[.int .i64 1,.int .i64 0,.pointer none,.slice none 0 0] 60)):=But.alloc _ _ _;revert h9 a0;generalize (w.alloc (.cells #[.int .i64 1,.int .i64 0,.pointer none,.slice none 0 0] 60))=w9;intro h9 a0;obtain⟨r0,r1,r2,r3⟩:=dT h9;exact bodyPost_ret (v:= .agg #[.int .i64 1,.int .i64 0,.pointer none,.slice none 0 0]) (by simp[results,Tryz.results60,go_sem,r0,r1,r2,r3]) rfl ⟨a0,by unfold ke;rw[HL.out];rfl⟩
 ·have l5: ¬400<(s.size:Int):=by omega
  go_in
  go_wp2_with fail;revert h0 f4;generalize (w.alloc (.cells #[.int .i64 0,.int .i64 0,.pointer none,.slice none 0 0] 60))=W;intro h0 f4;have m4:=ae f4;have g7:=hid f4;clear f4;refine(tS s W (by omega)).mono ?_;rintro en w1 ⟨i5,g,p,rfl,hg,l6⟩;have b2:=h0.trans i5;have b6:=hid ((i5.block w.heap.size m4 (fun h=>h)).trans g7.out);rcases l6 with⟨j,d6,rfl,j0⟩ | ⟨rfl,im,d6,h3⟩
  ·have HL:Hid (dR s= .error (2,j)):=hid (by unfold dR;rw[if_neg hbig,d6]);clear d6 hbig g7;have h5:=ae j0;go_wp2_with fail;refine(ph g j w1).mono ?_;rintro en w2 ⟨a7,rfl⟩;have a6:=b2.trans a7;have f6:=(a7.block g h5 (fun h=>h)).trans j0;obtain⟨t0,t1,t2⟩:=fm f6;have h6:=ae f6;have b0:=hid (a7.kp b6.out);go_wp2_with fail;have a3:But (fun _=>False) w2 (w2.alloc (.cells #[.int .i64 2,.int .i64 j,.pointer none,.slice none 0 0] 60)):=But.alloc _ _ _;have a5:=heap_alloc_new w2 (.cells #[.int .i64 2,.int .i64 j,.pointer none,.slice none 0 0] 60);revert a3 a5;generalize (w2.alloc (.cells #[.int .i64 2,.int .i64 j,.pointer none,.slice none 0 0] 60))=w3
   intro a3 a5;have a9:=a3.kp b0.out;have u2:=a3.kc t2 h6;clear t0 t1 t2;obtain⟨k0,k1,k2,k3⟩:=dT a5;obtain⟨q0,q1,q2,q3⟩:=dT a9;obtain⟨f0,f1,f2,f3⟩:=gK a9;have b9:=hid a9;clear a9 b0 b6 a5
   go_loopg [6] 0 (fun mm is wr=>is= .int .i64 0∧wr=w3)
   case atStart=>exact⟨rfl,rfl⟩
   case round=>
    obtain⟨rfl,i2⟩:=hrel;subst i2;go_wp2_with fail;have h9:=dW b9.out (.int .i64 2) (.int .i64 j) (.pointer none) (.slice none 0 0);have a0:=eJ wr w.heap.size (.int .i64 2) (.int .i64 j) (.pointer none) (.slice none 0 0);unfold nB at h9 a0;revert h9 a0;generalize ((((wr.setCell ⟨w.heap.size,0,none⟩ (.int .i64 2)).setCell ⟨w.heap.size,1,none⟩ (.int .i64 j)).setCell ⟨w.heap.size,2,none⟩ (.pointer none)).setCell ⟨w.heap.size,3,none⟩ (.slice none 0 0))=w9;intro h9 a0;obtain⟨r0,r1,r2,r3⟩:=dT h9;exact bodyPost_ret (v:= .agg #[.int .i64 2,.int .i64 j,.pointer none,.slice none 0 0]) (by simp[results,Tryz.results60,go_sem,r0,r1,r2,r3]) rfl ⟨(a6.trans a3).next a0 (fun k hk h=>by omega),by unfold ke;rw[HL.out];rfl⟩
  ·have hW:=qZ (by omega) d6;have f8:=hid d6;clear d6 g7;have c6:=wm g im w1 hW h3;obtain⟨bs,⟨vb,i1,g3,lb,hO,hm,hf⟩,e4⟩:=h3.bod;obtain⟨a2,j7,rfl⟩:=aw hO;have j3:lb.length=im.bodies.length:=by rw[←e4.1,←hm];simp
   have n7:=hW.nb;have HM:=hid hm;clear hm
   cases hfs:im.bodies.findSome? (fun b=>unl im.classes im.bodies b.code)with
   |some q=>
    have HL:Hid (dR s= .error (3,q)):=hid (by unfold dR;rw[if_neg hbig,f8.out];simp only[hfs]);rw[show eR g im= .agg #[.int .i64 3,.int .i64 q,.pointer none,.slice none 0 0]from by unfold eR;rw[hfs]]at c6;have e0:=hid c6;clear c6 hfs hbig f8;go_wp2_with fail;refine e0.out.mono ?_;rintro en w2 ⟨a7,rfl⟩;have a6:=b2.trans a7;have b0:=hid (a7.kp b6.out);clear e0;go_wp2_with fail;have a3:But (fun _=>False) w2 (w2.alloc (.cells #[.int .i64 3,.int .i64 q,.pointer none,.slice none 0 0] 60)):=But.alloc _ _ _;have a5:=heap_alloc_new w2 (.cells #[.int .i64 3,.int .i64 q,.pointer none,.slice none 0 0] 60)
    revert a3 a5;generalize (w2.alloc (.cells #[.int .i64 3,.int .i64 q,.pointer none,.slice none 0 0] 60))=w3;intro a3 a5;have a9:=a3.kp b0.out;have u2:=((a7.trans a3).cell (p:=⟨g,2,none⟩) g3 (fun h=>h)).trans i1;have b3:0<(lb.length:Int)∨ ¬0<(lb.length:Int):=Decidable.em _;obtain⟨k0,k1,k2,k3⟩:=dT a5;obtain⟨q0,q1,q2,q3⟩:=dT a9;obtain⟨f0,f1,f2,f3⟩:=gK a9;have b9:=hid a9;clear a9 b0 b6 a5
    go_loopg [6] 0 (fun mm is wr=>is= .int .i64 0∧wr=w3)
    case atStart=>exact⟨rfl,rfl⟩
    case round=>
     obtain⟨rfl,i2⟩:=hrel;subst i2;rcases b3 with b3|b3
     ·go_wp2_with fail;have h9:=dW b9.out (.int .i64 3) (.int .i64 q) (.pointer none) (.slice none 0 0);have a0:=eJ wr w.heap.size (.int .i64 3) (.int .i64 q) (.pointer none) (.slice none 0 0);unfold nB at h9 a0;revert h9 a0;generalize ((((wr.setCell ⟨w.heap.size,0,none⟩ (.int .i64 3)).setCell ⟨w.heap.size,1,none⟩ (.int .i64 q)).setCell ⟨w.heap.size,2,none⟩ (.pointer none)).setCell ⟨w.heap.size,3,none⟩ (.slice none 0 0))=w9;intro h9 a0;obtain⟨r0,r1,r2,r3⟩:=dT h9;exact bodyPost_ret (v:= .agg #[.int .i64 3,.int .i64 q,.pointer none,.slice none 0 0]) (by simp[results,Tryz.results60,go_sem,r0,r1,r2,r3]) rfl ⟨(a6.trans a3).next a0 (fun k hk h=>by omega),by unfold ke;rw[HL.out];rfl⟩
     ·go_wp2_with fail;have h9:=dW b9.out (.int .i64 3) (.int .i64 q) (.pointer none) (.slice none 0 0);have a0:=eJ wr w.heap.size (.int .i64 3) (.int .i64 q) (.pointer none) (.slice none 0 0);unfold nB at h9 a0;revert h9 a0;generalize ((((wr.setCell ⟨w.heap.size,0,none⟩ (.int .i64 3)).setCell ⟨w.heap.size,1,none⟩ (.int .i64 q)).setCell ⟨w.heap.size,2,none⟩ (.pointer none)).setCell ⟨w.heap.size,3,none⟩ (.slice none 0 0))=w9;intro h9 a0;obtain⟨r0,r1,r2,r3⟩:=dT h9;exact bodyPost_ret (v:= .agg #[.int .i64 3,.int .i64 q,.pointer none,.slice none 0 0]) (by simp[results,Tryz.results60,go_sem,r0,r1,r2,r3]) rfl ⟨(a6.trans a3).next a0 (fun k hk h=>by omega),by unfold ke;rw[HL.out];rfl⟩
   |none=>
    have HL:Hid (dR s= .ok im):=hid (by unfold dR;rw[if_neg hbig,f8.out];simp only[hfs]);rw[show eR g im= .agg #[.int .i64 0,.int .i64 0,.pointer (some ⟨g,0,none⟩),.slice none 0 0]from by unfold eR;rw[hfs]]at c6;have e0:=hid c6;clear c6 hfs hbig f8;go_wp2_with fail;refine e0.out.mono ?_;rintro en w2 ⟨a7,rfl⟩;have a6:=b2.trans a7;have b0:=hid (a7.kp b6.out);clear e0;go_wp2_with fail;have a3:But (fun _=>False) w2 (w2.alloc (.cells #[.int .i64 0,.int .i64 0,.pointer (some ⟨g,0,none⟩),.slice none 0 0] 60)):=But.alloc _ _ _;have a5:=heap_alloc_new w2 (.cells #[.int .i64 0,.int .i64 0,.pointer (some ⟨g,0,none⟩),.slice none 0 0] 60)
    revert a3 a5;generalize (w2.alloc (.cells #[.int .i64 0,.int .i64 0,.pointer (some ⟨g,0,none⟩),.slice none 0 0] 60))=w3;intro a3 a5;have a9:=a3.kp b0.out;have a4:=a7.trans a3;have e6:=a6.trans a3;have f5:g<w3.heap.size:=Nat.lt_of_lt_of_le g3 a4.size;have n3:w.heap.size<w2.heap.size:=ae b0.out;have k9:=ae a5;have b9:=hid a9;have e8:=h3.but a4;have l3:=ah hO a4 (fun _ _ h=>h);have n2:=a4.kc i1 g3;have m2:g≠w2.heap.size:=by have:=Nat.lt_of_lt_of_le g3 a7.size;omega
    have HF:Hid (∀x∈lb,BtB w3 0 x.2.1 x.1.locals∧ItB w3 0 x.2.2 x.1.items):=hid (fun x hx=>⟨(hf x hx).1.but a4 (fun _ _ h=>h),ah (hf x hx).2 a4 (fun _ _ h=>h)⟩);have e5:=e4.but a4 (fun _ _ _ _ h=>h);clear a9 b0 b6 hf i1 hO
    go_loopg [6] lb.length (fun mm ks wr=> ∃(k:Nat),ks= .int .i64 k∧k≤lb.length∧k+mm≤lb.length∧lb.length≤k+mm∧But (fun _=>False) w3 wr∧Hid (∀j (hj:j<im.bodies.length),j<k→fP im im.bodies[j]=true))
    case atStart=>exact⟨0,rfl,by omega,by omega,by omega,But.refl _ _,fun j hj h=>absurd h (by omega)⟩
    case round=>
     obtain⟨k,rfl,n4,n5,n6,a8,HA⟩:=hrel;have j1:=a8.kp b9.out;have i7:=(a8.block w2.heap.size k9 (fun h=>h)).trans a5;have e2:=hid j1;have h7:=ae j1;have l0:=ae i7;have i0:=a8.kc n2 f5;have m3:g<wr.heap.size:=Nat.lt_of_lt_of_le f5 a8.size;have i4:=hid j3;clear j3;obtain⟨k0,k1,k2,k3⟩:=dT i7
     by_cases hlt:k<lb.length
     ·have n1:(k:Int)<(lb.length:Int):=by omega
      have hx:=List.getElem?_eq_getElem hlt;have l4:=ah l3 a8 (fun _ _ h=>h);obtain⟨gB,m0,m1,_,a1⟩:=aI l4 (by omega);obtain⟨X,hX⟩: ∃X,lb[k]=X:=⟨_,rfl⟩;have j2:k<im.bodies.length:=by rw[←i4.out];exact hlt
      have g2:=List.getElem?_eq_getElem j2;obtain⟨bd,g1⟩: ∃bd,im.bodies[k]=bd:=⟨_,rfl⟩;rw[g1]at g2;have i9:bs[k]?=some X.1:=by rw[←HM.out,List.getElem?_map,hx,hX];rfl
      have e3:=(e5.but a8 (fun _ _ _ _ h=>h)).2 k X.1 bd i9 g2;have j4:jX im.classes im.sigs bd:=hW.bod _ (List.mem_of_getElem? g2);obtain⟨b5,b4⟩:=HF.out _ (List.getElem_mem hlt);rw[hX]at b5 b4 hx;have g5:=BtB.but b5 a8 (fun _ _ h=>h);have g4:ItB wr 0 X.2.2 X.1.items:=ah b4 a8 (fun _ _ h=>h);clear b5 b4 hX;have p0:wr.cell? ⟨gB,k*5,none⟩=some (.int .u8 X.1.cls.toNat):=a1 _ _ (aV (k:=0) hx (by omega));have p1:wr.cell? ⟨gB,k*5+1,none⟩=some (.int .i64 X.1.meth):=a1 _ _ (aV (k:=1) hx (by omega));have p2:wr.cell? ⟨gB,k*5+2,none⟩=some (.int .u8 X.1.ans.toNat):=a1 _ _ (aV (k:=2) hx (by omega));have p3:wr.cell? ⟨gB,k*5+3,none⟩=some X.2.1:=a1 _ _ (aV (k:=3) hx (by omega))
      have p4:wr.cell? ⟨gB,k*5+4,none⟩=some X.2.2:=a1 _ _ (aV (k:=4) hx (by omega));obtain⟨⟨xc,xm,xa,xl,xi⟩,xv,xw⟩:=X;dsimp only at p0 p1 p2 p3 p4 g5 g4 e3;obtain⟨al,capl,rfl⟩:=aw g5;obtain⟨ai,capi,rfl⟩:=aw g4;have b1:=e8.but a8;have n0:xi.length≤24:=by have h1:xi.length=bd.code.length:=e3.its.len;have:=j4.len;omega
      have g0:=qy g (im.classes.map toX) im.sigs xc xm xa al ai capl capi xl xi bd.code wr (by rw[List.length_map];have:=hW.nc;omega) (by have:=hW.ns;omega) n0 b1.cls b1.met g5 g4 e3.its
      have e1:yn (im.classes.map toX) im.sigs xl bd.code xa=fP im bd:=by
       have h1:xl=bd.locals:=e3.loc;have h2:xa=(aN im.sigs bd).ans:=e3.ans;rw[h1,h2];exact zT hW j4
      rw[e1]at g0;unfold hdV at g0;have i3:=hid g0;subst m0
      have f7:Hid ((fP im bd=false→im.bodies.findIdx? (fun b=> !fP im b)=some k)∧(fP im bd=true→ ∀j (hj:j<im.bodies.length),j<k+1→fP im im.bodies[j]=true)):=by
       refine hid ⟨fun h=> ?_,fun h j hj hjk=> ?_⟩
       ·rw[List.findIdx?_eq_some_iff_getElem];exact⟨j2,by rw[g1,h];rfl,fun j hj=>by rw[HA.out j (by omega) hj];simp⟩
       ·rcases Nat.lt_or_ge j k with h'|h'
        ·exact HA.out j hj h'
        ·have:j=k:=by omega
         subst this;rw[g1];exact h
      clear g0 e1 a1 hx i9 g2 g1 g4 g5;go_wp2_with fail;refine i3.out.mono ?_;rintro en w4 ⟨i6,rfl⟩;have e7:=a8.trans i6;have e9:=(i6.block w.heap.size h7 (fun h=>h)).trans e2.out;have j5:=hid e9;have m5:=ae e9;obtain⟨q0,q1,q2,q3⟩:=dT e9;obtain⟨f0,f1,f2,f3⟩:=gK e9;clear i3 p0 p1 p2 p3 p4 i0 e9 k0 k1 k2 k3
      cases hbt:fP im bd with
      |false=>
       have g6:=hid (f7.out.1 hbt);clear hbt f7;go_wp2_with fail;have h9:=dW j5.out (.int .i64 4) (.int .i64 k) (.pointer none) (.slice none 0 0);have a0:=eJ w4 w.heap.size (.int .i64 4) (.int .i64 k) (.pointer none) (.slice none 0 0);unfold nB at h9 a0;revert h9 a0;generalize ((((w4.setCell ⟨w.heap.size,0,none⟩ (.int .i64 4)).setCell ⟨w.heap.size,1,none⟩ (.int .i64 k)).setCell ⟨w.heap.size,2,none⟩ (.pointer none)).setCell ⟨w.heap.size,3,none⟩ (.slice none 0 0))=w9;intro h9 a0;obtain⟨r0,r1,r2,r3⟩:=dT h9;exact bodyPost_ret (v:= .agg #[.int .i64 4,.int .i64 k,.pointer none,.slice none 0 0]) (by simp[results,Tryz.results60,go_sem,r0,r1,r2,r3]) rfl ⟨(e6.trans e7).next a0 (fun k' hk' h=>by omega),by unfold ke;rw[HL.out];simp only[g6.out]⟩
      |true=>
       have HY:=hid (f7.out.2 hbt);clear hbt f7;go_wp2_with fail
       go_roundg (lb.length-(k+1))
       case measure=>omega
       case rel=>exact⟨k+1,by simp,by omega,by omega,by omega,e7,HY⟩
     ·have n1: ¬(k:Int)<(lb.length:Int):=by omega
      have g6:Hid (im.bodies.findIdx? (fun b=> !fP im b)=none):=by
       refine hid ?_;rw[List.findIdx?_eq_none_iff];intro x hx;obtain⟨j,hj,rfl⟩:=List.getElem_of_mem hx;simp[HA.out j hj (by have:=i4.out;omega)]
      clear HA;obtain⟨q0,q1,q2,q3⟩:=dT e2.out;obtain⟨f0,f1,f2,f3⟩:=gK e2.out;have b1:=e8.but a8;go_wp2_with fail;have h9:=dW e2.out (.int .i64 0) (.int .i64 0) (.pointer (some ⟨g,0,none⟩)) (.slice none 0 0);have a0:=eJ wr w.heap.size (.int .i64 0) (.int .i64 0) (.pointer (some ⟨g,0,none⟩)) (.slice none 0 0);unfold nB at h9 a0;revert h9 a0;generalize ((((wr.setCell ⟨w.heap.size,0,none⟩ (.int .i64 0)).setCell ⟨w.heap.size,1,none⟩ (.int .i64 0)).setCell ⟨w.heap.size,2,none⟩ (.pointer (some ⟨g,0,none⟩))).setCell ⟨w.heap.size,3,none⟩ (.slice none 0 0))=w9;intro h9 a0;obtain⟨r0,r1,r2,r3⟩:=dT h9
      have h4:dC w9 g im:=b1.off a0 (by omega) (fun k' cur e hh he h8=>by
       rw[h8,e2.out]at hh;injection hh with hh;injection hh with _ h2;rw[←h2]at he;revert he
       decide)
      exact bodyPost_ret (v:= .agg #[.int .i64 0,.int .i64 0,.pointer (some ⟨g,0,none⟩),.slice none 0 0]) (by simp[results,Tryz.results60,go_sem,r0,r1,r2,r3]) rfl ⟨(e6.trans a8).next a0 (fun k' hk' h=>by omega),by unfold ke;rw[HL.out];simp only[g6.out];exact⟨g,rfl,hW,h4⟩⟩
theorem pq (s:ByteArray) (w:World) (hmax:s.size≤maxLen):
  Calls Tryz.prog 33 #[.string s] w fun en w'=>en= .returned (.tuple #[.int .i64 (di s).1,.int .i64 (di s).2])∧But (fun _=>False) w w':=by
 have key:Calls Tryz.prog 60 #[.string s] w fun en w'=>But (fun _=>False) w w'∧ ∃p ao cap n,en= .returned (.agg #[.int .i64 (di s).1,.int .i64 (di s).2,.pointer p,.slice ao n cap]):=by
  refine(gY s w hmax).mono ?_;rintro en w' ⟨hB,hE⟩;refine⟨hB,?_⟩;unfold ke at hE;unfold di
  cases hl:dR s with
  |error e=>
   rw[hl]at hE;obtain⟨e,p⟩:=e;exact⟨_,_,_,_,hE⟩
  |ok im=>
   rw[hl]at hE;simp only at hE⊢
   cases ht:im.bodies.findIdx? (fun b=> !fP im b)with
   |some k=>rw[ht]at hE;exact⟨_,_,_,_,hE⟩
   |none=>
    rw[ht]at hE;obtain⟨g,h1,_⟩:=hE;exact⟨_,_,_,_,h1⟩
 have HK:=hid key;clear key;obtain⟨E,hE⟩: ∃E,di s=E:=⟨_,rfl⟩;rw[hE]at HK;rw[hE];clear hE;obtain⟨e,p⟩:=E;dsimp only at HK⊢
 go_in
 go_wp2_with fail;refine HK.out.mono ?_;rintro en w1 ⟨a4,p1,ao,cap,n,rfl⟩;go_wp2_with fail;have a2:But (fun _=>False) w1 (w1.alloc (.cells #[.int .i64 e,.int .i64 p,.pointer p1,.slice ao n cap] 60)):=But.alloc _ _ _;have a1:=heap_alloc_new w1 (.cells #[.int .i64 e,.int .i64 p,.pointer p1,.slice ao n cap] 60);revert a2 a1;generalize (w1.alloc (.cells #[.int .i64 e,.int .i64 p,.pointer p1,.slice ao n cap] 60))=W;intro a2 a1;obtain⟨k0,k1,k2,k3⟩:=dT a1;have a3:=ae a1;have a0:But (fun _=>False) W W.drew:=But.drew _ _;refine cA (But (fun _=>False) W) 5 (by kernel_rfl) ?_;have fSA:=hid (fun wS (h:(But (fun _=>False) W) wS)=>(And.intro (h.kc k0 a3) (h.kc k1 a3)))
 refine aB (k:=2) (v:= ?vA2) rfl (by decide) (by kernel_rfl) (fun _ _ _ h=>h) rfl a0 ?yA2 ?rA2
 case yA2=>intro wS h;obtain⟨q0,q1⟩:=fSA.out wS h;clear h;go_simp;try rfl
 dsimp only[Act.put]
 try simp only[aK]
 refine aB (k:=3) (v:= ?vA3) rfl (by decide) (by kernel_rfl) (fun _ _ _ h=>h) rfl a0 ?yA3 ?rA3
 case yA3=>intro wS h;obtain⟨q0,q1⟩:=fSA.out wS h;clear h;go_simp;try rfl
 dsimp only[Act.put]
 try simp only[aK]
 refine aB (k:=0) (v:= ?vA0) rfl (by decide) (by kernel_rfl) (fun _ _ _ h=>h) rfl a0 ?yA0 ?rA0
 case yA0=>intro wS h;obtain⟨q0,q1⟩:=fSA.out wS h;clear h;go_simp;try rfl
 dsimp only[Act.put]
 try simp only[aK]
 refine aB (k:=1) (v:= ?vA1) rfl (by decide) (by kernel_rfl) (fun _ _ _ h=>h) rfl a0 ?yA1 ?rA1
 case yA1=>intro wS h;obtain⟨q0,q1⟩:=fSA.out wS h;clear h;go_simp;try rfl
 dsimp only[Act.put]
 try simp only[aK]
 try clear fSA
 refine aE (k:=4) rfl (by decide) (by kernel_rfl) ?_;intro KS hKS;go_simp;refine hKS.out _ _ (fun _=>a0) ?_;clear hKS KS;refine aE (k:=5) rfl (by decide) (by kernel_rfl) ?_;intro KS hKS;go_simp;refine hKS.out _ _ nofun ?_;clear hKS KS;refine ck rfl (by kernel_rfl) ?_;go_wp2_with fail;exact bodyPost_ret (v:= .tuple #[.int .i64 e,.int .i64 p]) (by simp[results,Tryz.results33,go_sem]) rfl ⟨rfl,(a4.trans a2).trans a0⟩
end
end Go.Proofs.YtpfkkmacakjmbaaGreatDoor
