import Derived.Test.YtpfkkmacakjmbaaGreatDoorP27
set_option maxRecDepth 100000
set_option maxHeartbeats 6400000
set_option linter.unusedSimpArgs false
set_option linter.unusedVariables false
namespace Go.Proofs.YtpfkkmacakjmbaaGreatDoor
section
open Go Go.RowKit Sp
section
variable {im:Img} {bd:Bod}
structure AA (im:Img) (bd:Bod) (q:Nat) (ty:List UInt8):Prop where
 len:ty.length=bd.code.length
 at': ∀k,q≤k→k<bd.code.length→bS im.classes im.sigs bd.locals bd.code bd.code.length k=some (ty.getD k 0)∧(ty.getD k 0).toNat≠45
theorem yb (hW:gR im) (hbd:jy im.classes im.sigs bd) {p:Nat} {ty:List UInt8} (h:AA im bd (p+1) ty) (hp:p<bd.code.length):
  (iD (im.classes.map toX) im.sigs bd.locals bd.code p ty=none∧bS im.classes im.sigs bd.locals bd.code bd.code.length p=none)∨ ∃ty',iD (im.classes.map toX) im.sigs bd.locals bd.code p ty=some ty'∧AA im bd p ty':=by
 have hy:=List.getElem?_eq_getElem hp;obtain⟨y,a6⟩: ∃y,bd.code[p]=y:=⟨_,rfl⟩;rw[a6]at hy;have a1: ∀k,k∈dg bd.code p→bH ty k=ty.getD k 0:=fun k hk=>l9 (by rw[h.len];exact(fS hk).2)
 have a0:bF bd.code (bS im.classes im.sigs bd.locals bd.code bd.code.length) (aw y.op) (p+1)=some ((dg bd.code p).map (bH ty)):=by
  have e:dg bd.code p=cd bd.code (aw y.op) (p+1):=by unfold dg;rw[hy]
  rw[e];refine tu ?_ ?_
  ·rw[←e];exact rK hbd.full hy
  ·intro q hq;rw[←e]at hq;have hm:=fS hq;rw[a1 q hq];exact(h.at' q (by omega) hm.2).1
 have a5:=hbd.code y (List.mem_of_getElem? hy)
 have a4:=ya hW hbd a5 (ts:=(dg bd.code p).map (bH ty)) (by rw[List.length_map];exact rK hbd.full hy) (fun c hc=>by
  obtain⟨q,hq,rfl⟩:=List.mem_map.1 hc;rw[a1 q hq];exact uc hW hbd (h.at' q (by have:=(fS hq).1;omega) (fS hq).2).1) (fun c hc=>by
  obtain⟨q,hq,rfl⟩:=List.mem_map.1 hc;rw[a1 q hq];exact(h.at' q (by have:=(fS hq).1;omega) (fS hq).2).2)
 have a3:bS im.classes im.sigs bd.locals bd.code bd.code.length p=cg (im.classes.map toX) im.sigs bd.locals y ((dg bd.code p).map (bH ty)):=by
  rw[oH hy,a0,a4]
 unfold iD;rw[hy];simp only
 cases hx:cg (im.classes.map toX) im.sigs bd.locals y ((dg bd.code p).map (bH ty))with
 |none=>exact Or.inl ⟨rfl,by rw[a3,hx]⟩
 |some c=>
  right
  have a2:c.toNat≠45:=by
   unfold cg at hx
   split at hx
   ·rename_i hh
    cases hx
    exact hh.2
   ·cases hx
  refine⟨ty.set p c,rfl,by rw[List.length_set];exact h.len,fun k h1 h2=> ?_⟩
  by_cases hk:p=k
  ·subst hk;have e:(ty.set p c).getD p 0=c:=by simp[List.getD,h.len,hp]
   rw[e,a3,hx];exact⟨rfl,a2⟩
  ·have e:(ty.set p c).getD k 0=ty.getD k 0:=by simp[List.getD,List.getElem?_set_ne hk]
   rw[e];exact h.at' k (by omega) h2
theorem AB (hW:gR im) (hbd:jy im.classes im.sigs bd):okT im.classes.length (aW im.sigs bd).ans=true∧(aW im.sigs bd).ans=if bd.cls<0 then 105 else dR im.sigs bd.meth.toNat:=by
 rcases hbd.cls with⟨h1,_⟩ | ⟨h1,h2,h3,h4⟩
 ·simp[aW,h1,rf]
 ·have hn: ¬bd.cls<0:=by omega
  have hm:bd.meth.toNat<im.sigs.length:=by omega
  have e:=(kB hm).2;simp only[aW,hn,if_false,e,and_true];unfold dR;rw[List.getElem?_eq_getElem hm];exact iZ (hW.sig _ (List.getElem_mem hm)).2
theorem zD (hW:gR im) (hbd:jy im.classes im.sigs bd): ∀{q:Nat} {ty:List UInt8},q≤bd.code.length→AA im bd q ty→pY (im.classes.map toX) (aW im.sigs bd).ans (lU (im.classes.map toX) im.sigs bd.locals bd.code q ty)=dN im bd:=by
 intro q
 induction q with
 |zero=>
  intro ty _ h;have h0:=re (m:=0) hbd.full;obtain⟨e1,e2⟩:=h.at' 0 (Nat.le_refl _) h0;obtain⟨a1,a2⟩:=AB hW hbd;simp only[lU,pY,dN,e1];rw[l9 (by rw[h.len];exact h0),fL hW.cls hW.nc (uc hW hbd e1) a1,a2]
 |succ p ih=>
  intro ty hq h;rcases yb hW hbd h (by omega)with⟨h1,h2⟩ | ⟨ty',h1,h2⟩
  ·simp only[lU,h1,pY,dN]
   have hr:bS im.classes im.sigs bd.locals bd.code bd.code.length 0=none:=by
    cases hr:bS im.classes im.sigs bd.locals bd.code bd.code.length 0 with
    |none=>rfl
    |some c=>exact absurd h2 (xY hbd.full (by rw[hr];simp) p (by omega))
   rw[hr]
  ·simp only[lU,h1];exact ih (by omega) h2
theorem zE (hW:gR im) (hbd:jy im.classes im.sigs bd):xZ (im.classes.map toX) im.sigs bd.locals bd.code (aW im.sigs bd).ans=dN im bd:=by
 unfold xZ;exact zD hW hbd (Nat.le_refl _) ⟨by simp,fun k h1 h2=>by omega⟩
end
end
section
open Go Go.RowKit Sp
attribute [local go_sem ↓] Go.wp_at_zero Go.wp_at_succ
theorem eZ.but {w w':World} {g:Nat} {im:Img} (h:eZ w g im) (hb:But (fun _=>False) w w'):eZ w' g im:=by
 obtain⟨bs,h1,h2⟩:=h.bod;exact⟨h.cls.but hb,h.met.but hb,bs,h1.but hb,h2.but hb (fun _ _ _ _ h=>h)⟩
theorem vD (g:Nat) (im:Img) (w:World) (hW:gR im) (hTX:eZ w g im):
  Calls Tryz.prog 64 #[.pointer (some ⟨g,0,none⟩),.int .i64 (-1)] w fun en w'=>But (fun _=>False) w w'∧en= .returned (eE g im):=by
 have a5:But (fun _=>False) w (w.alloc (.cells #[.int .i64 0,.int .i64 0,.pointer none,.slice none 0 0] 60)):=But.alloc _ _ _;have a0:=heap_alloc_new w (.cells #[.int .i64 0,.int .i64 0,.pointer none,.slice none 0 0] 60)
 cases hfs:im.bodies.findSome? (fun b=>unl im.classes im.bodies b.code)with
 |some q=>
  have e1:((q:Int)== -1)=false:=by rw[beq_eq_false_iff_ne];omega
  have e2:((q:Int)!= -1)=true:=by simp[bne,e1]
  have b1: ¬(q:Int)= -1:=by omega
  have a4:=mV g im (w.alloc (.cells #[.int .i64 0,.int .i64 0,.pointer none,.slice none 0 0] 60)) hW (hTX.but a5);rw[hfs]at a4;simp only[jT]at a4;rw[show eE g im= .agg #[.int .i64 3,.int .i64 q,.pointer none,.slice none 0 0]from by unfold eE;rw[hfs]];have a1:=hid a4;clear a4 hfs
  go_in
  go_wp2_with fail;revert a5 a0 a1;generalize (w.alloc (.cells #[.int .i64 0,.int .i64 0,.pointer none,.slice none 0 0] 60))=W;intro a5 a0 a1;have b0:=ae a0;refine a1.out.mono ?_;rintro en w2 ⟨rfl,a7⟩;have a6:=a5.trans a7;have a3:=(a7.block w.heap.size b0 (fun h=>h)).trans a0;have a8:=hid a3;obtain⟨q0,q1,q2,q3⟩:=dD a3;obtain⟨f0,f1,f2,f3⟩:=gC a3;clear a3 a0 a1;go_wp2_with fail;have h9:=dJ a8.out (.int .i64 3) (.int .i64 q) (.pointer none) (.slice none 0 0);have a2:=ex w2 w.heap.size (.int .i64 3) (.int .i64 q) (.pointer none) (.slice none 0 0);unfold mN at h9 a2;revert h9 a2;generalize ((((w2.setCell ⟨w.heap.size,0,none⟩ (.int .i64 3)).setCell ⟨w.heap.size,1,none⟩ (.int .i64 q)).setCell ⟨w.heap.size,2,none⟩ (.pointer none)).setCell ⟨w.heap.size,3,none⟩ (.slice none 0 0))=w9
  intro h9 a2;obtain⟨r0,r1,r2,r3⟩:=dD h9;exact bodyPost_ret (v:= .agg #[.int .i64 3,.int .i64 q,.pointer none,.slice none 0 0]) (by simp[results,Tryz.results64,go_sem,r0,r1,r2,r3]) rfl ⟨a6.next a2 (fun k hk h=>by omega),rfl⟩
 |none=>
  have a4:=mV g im (w.alloc (.cells #[.int .i64 0,.int .i64 0,.pointer none,.slice none 0 0] 60)) hW (hTX.but a5);rw[hfs]at a4;simp only[jT]at a4;rw[show eE g im= .agg #[.int .i64 0,.int .i64 0,.pointer (some ⟨g,0,none⟩),.slice none 0 0]from by unfold eE;rw[hfs]];have a1:=hid a4;clear a4 hfs
  go_in
  go_wp2_with fail;revert a5 a0 a1;generalize (w.alloc (.cells #[.int .i64 0,.int .i64 0,.pointer none,.slice none 0 0] 60))=W;intro a5 a0 a1;have b0:=ae a0;refine a1.out.mono ?_;rintro en w2 ⟨rfl,a7⟩;have a6:=a5.trans a7;have a3:=(a7.block w.heap.size b0 (fun h=>h)).trans a0;have a8:=hid a3;obtain⟨q0,q1,q2,q3⟩:=dD a3;obtain⟨f0,f1,f2,f3⟩:=gC a3;clear a3 a0 a1;go_wp2_with fail;have h9:=dJ a8.out (.int .i64 0) (.int .i64 0) (.pointer (some ⟨g,0,none⟩)) (.slice none 0 0);have a2:=ex w2 w.heap.size (.int .i64 0) (.int .i64 0) (.pointer (some ⟨g,0,none⟩)) (.slice none 0 0);unfold mN at h9 a2;revert h9 a2
  generalize ((((w2.setCell ⟨w.heap.size,0,none⟩ (.int .i64 0)).setCell ⟨w.heap.size,1,none⟩ (.int .i64 0)).setCell ⟨w.heap.size,2,none⟩ (.pointer (some ⟨g,0,none⟩))).setCell ⟨w.heap.size,3,none⟩ (.slice none 0 0))=w9;intro h9 a2;obtain⟨r0,r1,r2,r3⟩:=dD h9;exact bodyPost_ret (v:= .agg #[.int .i64 0,.int .i64 0,.pointer (some ⟨g,0,none⟩),.slice none 0 0]) (by simp[results,Tryz.results64,go_sem,r0,r1,r2,r3]) rfl ⟨a6.next a2 (fun k hk h=>by omega),rfl⟩
theorem eZ.off {F:Nat→Prop} {w w':World} {g:Nat} {im:Img} (h:eZ w g im) (hb:But F w w') (hg: ¬F g) (hf: ∀k cur e,w.heap[k]?=some (.cells cur e)→(e=240∨e=243∨e=115∨e=219∨e=5∨e=3)→ ¬F k):eZ w' g im:=by
 obtain⟨⟨v0,l,h0,hl,hO,hm,a2⟩,⟨v1,h1,_,a1⟩,bs,⟨v2,h2,_,hT⟩,a0⟩:=h;refine⟨⟨v0,l,(hb.cell (p:=⟨g,0,none⟩) hl hg).trans h0,Nat.lt_of_lt_of_le hl hb.size,aU hO hb (fun k cur hh _=>hf k cur _ hh (by simp)),hm,fun x hx=>aU (a2 x hx) hb (fun k cur hh _=>hf k cur _ hh (by simp))⟩,⟨v1,(hb.cell (p:=⟨g,1,none⟩) hl hg).trans h1,Nat.lt_of_lt_of_le hl hb.size,aU a1 hb (fun k cur hh _=>hf k cur _ hh (by simp))⟩,bs,⟨v2,(hb.cell (p:=⟨g,2,none⟩) hl hg).trans h2,Nat.lt_of_lt_of_le hl hb.size,hT.but hb (fun k e cur hh he _=>hf k cur e hh (by rcases he with h|h|h<;>simp[h]))⟩,a0.but hb (fun k cur hh _=>hf k cur _ hh (by simp))⟩
def jH (s:ByteArray) (w:World) (en:Ending) (w':World):Prop:=
 match ep s with
 | .error (e,p)=>en= .returned (.agg #[.int .i64 e,.int .i64 p,.pointer none,.slice none 0 0])
 | .ok im=>
  match im.bodies.findIdx? (fun b=> !dN im b)with
  |some k=>en= .returned (.agg #[.int .i64 4,.int .i64 k,.pointer none,.slice none 0 0])
  |none=> ∃g,en= .returned (.agg #[.int .i64 0,.int .i64 0,.pointer (some ⟨g,0,none⟩),.slice none 0 0])∧gR im∧eZ w' g im
theorem gJ (s:ByteArray) (w:World) (hmax:s.size≤maxLen):
  Calls Tryz.prog 60 #[.string s] w fun en w'=>But (fun _=>False) w w'∧jH s w en w':=by
 have h4:But (fun _=>False) w (w.alloc (.cells #[.int .i64 0,.int .i64 0,.pointer none,.slice none 0 0] 60)):=But.alloc _ _ _;have f6:=heap_alloc_new w (.cells #[.int .i64 0,.int .i64 0,.pointer none,.slice none 0 0] 60)
 by_cases hbig:400<s.size
 ·have l6:400<(s.size:Int):=by omega
  have hL:ep s= .error (1,0):=by unfold ep;rw[if_pos hbig]
  have HL:=hid hL;clear hbig hL
  go_in
  go_wp2_with fail;have h9:=heap_alloc_new w (.cells #[.int .i64 1,.int .i64 0,.pointer none,.slice none 0 0] 60);have a0:But (fun _=>False) w (w.alloc (.cells #[.int .i64 1,.int .i64 0,.pointer none,.slice none 0 0] 60)):=But.alloc _ _ _;revert h9 a0;generalize (w.alloc (.cells #[.int .i64 1,.int .i64 0,.pointer none,.slice none 0 0] 60))=w9;intro h9 a0;obtain⟨r0,r1,r2,r3⟩:=dD h9;exact bodyPost_ret (v:= .agg #[.int .i64 1,.int .i64 0,.pointer none,.slice none 0 0]) (by simp[results,Tryz.results60,go_sem,r0,r1,r2,r3]) rfl ⟨a0,by unfold jH;rw[HL.out];rfl⟩
 ·have l6: ¬400<(s.size:Int):=by omega
  go_in
  go_wp2_with fail;revert h4 f6;generalize (w.alloc (.cells #[.int .i64 0,.int .i64 0,.pointer none,.slice none 0 0] 60))=W;intro h4 f6;have m5:=ae f6;have h3:=hid f6;clear f6;refine(tq s W (by omega)).mono ?_;rintro en w1 ⟨i7,g,p,rfl,hg,m0⟩;have b3:=h4.trans i7;have c7:=hid ((i7.block w.heap.size m5 (fun h=>h)).trans h3.out);rcases m0 with⟨j,e2,rfl,j3⟩ | ⟨rfl,im,e2,h5⟩
  ·have HL:Hid (ep s= .error (2,j)):=hid (by unfold ep;rw[if_neg hbig,e2]);clear e2 hbig h3;have h7:=ae j3;go_wp2_with fail;refine(oD g j w1).mono ?_;rintro en w2 ⟨a7,rfl⟩;have a6:=b3.trans a7;have f8:=(a7.block g h7 (fun h=>h)).trans j3;obtain⟨t0,t1,t2⟩:=eY f8;have i0:=ae f8;have b1:=hid (a7.kp c7.out);go_wp2_with fail;have a3:But (fun _=>False) w2 (w2.alloc (.cells #[.int .i64 2,.int .i64 j,.pointer none,.slice none 0 0] 60)):=But.alloc _ _ _;have a5:=heap_alloc_new w2 (.cells #[.int .i64 2,.int .i64 j,.pointer none,.slice none 0 0] 60);revert a3 a5;generalize (w2.alloc (.cells #[.int .i64 2,.int .i64 j,.pointer none,.slice none 0 0] 60))=w3
   intro a3 a5;have b0:=a3.kp b1.out;have u2:=a3.kc t2 i0;clear t0 t1 t2;obtain⟨k0,k1,k2,k3⟩:=dD a5;obtain⟨q0,q1,q2,q3⟩:=dD b0;obtain⟨f0,f1,f2,f3⟩:=gC b0;have d6:=hid b0;clear b0 b1 c7 a5
   go_loopg [6] 0 (fun mm is wr=>is= .int .i64 0∧wr=w3)
   case atStart=>exact⟨rfl,rfl⟩
   case round=>
    obtain⟨rfl,i4⟩:=hrel;subst i4;go_wp2_with fail;have h9:=dJ d6.out (.int .i64 2) (.int .i64 j) (.pointer none) (.slice none 0 0);have a0:=ex wr w.heap.size (.int .i64 2) (.int .i64 j) (.pointer none) (.slice none 0 0);unfold mN at h9 a0;revert h9 a0;generalize ((((wr.setCell ⟨w.heap.size,0,none⟩ (.int .i64 2)).setCell ⟨w.heap.size,1,none⟩ (.int .i64 j)).setCell ⟨w.heap.size,2,none⟩ (.pointer none)).setCell ⟨w.heap.size,3,none⟩ (.slice none 0 0))=w9;intro h9 a0;obtain⟨r0,r1,r2,r3⟩:=dD h9;exact bodyPost_ret (v:= .agg #[.int .i64 2,.int .i64 j,.pointer none,.slice none 0 0]) (by simp[results,Tryz.results60,go_sem,r0,r1,r2,r3]) rfl ⟨(a6.trans a3).next a0 (fun k hk h=>by omega),by unfold jH;rw[HL.out];rfl⟩
  ·have hW:=qF (by omega) e2;have g1:=hid e2;clear e2 h3;have e0:=vD g im w1 hW h5;obtain⟨bs,⟨vb,i3,g5,lb,hO,hm,hf⟩,e6⟩:=h5.bod;obtain⟨a2,l1,rfl⟩:=aq hO;have j7:lb.length=im.bodies.length:=by rw[←e6.1,←hm];simp
   have o0:=hW.nb;have HM:=hid hm;clear hm
   cases hfs:im.bodies.findSome? (fun b=>unl im.classes im.bodies b.code)with
   |some q=>
    have HL:Hid (ep s= .error (3,q)):=hid (by unfold ep;rw[if_neg hbig,g1.out];simp only[hfs]);rw[show eE g im= .agg #[.int .i64 3,.int .i64 q,.pointer none,.slice none 0 0]from by unfold eE;rw[hfs]]at e0;have e3:=hid e0;clear e0 hfs hbig g1;go_wp2_with fail;refine e3.out.mono ?_;rintro en w2 ⟨a7,rfl⟩;have a6:=b3.trans a7;have b1:=hid (a7.kp c7.out);clear e3;go_wp2_with fail;have a3:But (fun _=>False) w2 (w2.alloc (.cells #[.int .i64 3,.int .i64 q,.pointer none,.slice none 0 0] 60)):=But.alloc _ _ _;have a5:=heap_alloc_new w2 (.cells #[.int .i64 3,.int .i64 q,.pointer none,.slice none 0 0] 60)
    revert a3 a5;generalize (w2.alloc (.cells #[.int .i64 3,.int .i64 q,.pointer none,.slice none 0 0] 60))=w3;intro a3 a5;have b0:=a3.kp b1.out;have u2:=((a7.trans a3).cell (p:=⟨g,2,none⟩) g5 (fun h=>h)).trans i3;have b4:0<(lb.length:Int)∨ ¬0<(lb.length:Int):=Decidable.em _;obtain⟨k0,k1,k2,k3⟩:=dD a5;obtain⟨q0,q1,q2,q3⟩:=dD b0;obtain⟨f0,f1,f2,f3⟩:=gC b0;have d6:=hid b0;clear b0 b1 c7 a5
    go_loopg [6] 0 (fun mm is wr=>is= .int .i64 0∧wr=w3)
    case atStart=>exact⟨rfl,rfl⟩
    case round=>
     obtain⟨rfl,i4⟩:=hrel;subst i4;rcases b4 with b4|b4
     ·go_wp2_with fail;have h9:=dJ d6.out (.int .i64 3) (.int .i64 q) (.pointer none) (.slice none 0 0);have a0:=ex wr w.heap.size (.int .i64 3) (.int .i64 q) (.pointer none) (.slice none 0 0);unfold mN at h9 a0;revert h9 a0;generalize ((((wr.setCell ⟨w.heap.size,0,none⟩ (.int .i64 3)).setCell ⟨w.heap.size,1,none⟩ (.int .i64 q)).setCell ⟨w.heap.size,2,none⟩ (.pointer none)).setCell ⟨w.heap.size,3,none⟩ (.slice none 0 0))=w9;intro h9 a0;obtain⟨r0,r1,r2,r3⟩:=dD h9;exact bodyPost_ret (v:= .agg #[.int .i64 3,.int .i64 q,.pointer none,.slice none 0 0]) (by simp[results,Tryz.results60,go_sem,r0,r1,r2,r3]) rfl ⟨(a6.trans a3).next a0 (fun k hk h=>by omega),by unfold jH;rw[HL.out];rfl⟩
     ·go_wp2_with fail;have h9:=dJ d6.out (.int .i64 3) (.int .i64 q) (.pointer none) (.slice none 0 0);have a0:=ex wr w.heap.size (.int .i64 3) (.int .i64 q) (.pointer none) (.slice none 0 0);unfold mN at h9 a0;revert h9 a0;generalize ((((wr.setCell ⟨w.heap.size,0,none⟩ (.int .i64 3)).setCell ⟨w.heap.size,1,none⟩ (.int .i64 q)).setCell ⟨w.heap.size,2,none⟩ (.pointer none)).setCell ⟨w.heap.size,3,none⟩ (.slice none 0 0))=w9;intro h9 a0;obtain⟨r0,r1,r2,r3⟩:=dD h9;exact bodyPost_ret (v:= .agg #[.int .i64 3,.int .i64 q,.pointer none,.slice none 0 0]) (by simp[results,Tryz.results60,go_sem,r0,r1,r2,r3]) rfl ⟨(a6.trans a3).next a0 (fun k hk h=>by omega),by unfold jH;rw[HL.out];rfl⟩
   |none=>
    have HL:Hid (ep s= .ok im):=hid (by unfold ep;rw[if_neg hbig,g1.out];simp only[hfs]);rw[show eE g im= .agg #[.int .i64 0,.int .i64 0,.pointer (some ⟨g,0,none⟩),.slice none 0 0]from by unfold eE;rw[hfs]]at e0;have e3:=hid e0;clear e0 hfs hbig g1;go_wp2_with fail;refine e3.out.mono ?_;rintro en w2 ⟨a7,rfl⟩;have a6:=b3.trans a7;have b1:=hid (a7.kp c7.out);clear e3;go_wp2_with fail;have a3:But (fun _=>False) w2 (w2.alloc (.cells #[.int .i64 0,.int .i64 0,.pointer (some ⟨g,0,none⟩),.slice none 0 0] 60)):=But.alloc _ _ _;have a5:=heap_alloc_new w2 (.cells #[.int .i64 0,.int .i64 0,.pointer (some ⟨g,0,none⟩),.slice none 0 0] 60)
    revert a3 a5;generalize (w2.alloc (.cells #[.int .i64 0,.int .i64 0,.pointer (some ⟨g,0,none⟩),.slice none 0 0] 60))=w3;intro a3 a5;have b0:=a3.kp b1.out;have a4:=a7.trans a3;have e8:=a6.trans a3;have f7:g<w3.heap.size:=Nat.lt_of_lt_of_le g5 a4.size;have n4:w.heap.size<w2.heap.size:=ae b1.out;have l2:=ae a5;have d6:=hid b0;have f4:=h5.but a4;have l4:=ah hO a4 (fun _ _ h=>h);have n3:=a4.kc i3 g5;have m3:g≠w2.heap.size:=by have:=Nat.lt_of_lt_of_le g5 a7.size;omega
    have HF:Hid (∀x∈lb,BtB w3 0 x.2.1 x.1.locals∧ItB w3 0 x.2.2 x.1.items):=hid (fun x hx=>⟨(hf x hx).1.but a4 (fun _ _ h=>h),ah (hf x hx).2 a4 (fun _ _ h=>h)⟩);have e7:=e6.but a4 (fun _ _ _ _ h=>h);clear b0 b1 c7 hf i3 hO
    go_loopg [6] lb.length (fun mm ks wr=> ∃(k:Nat),ks= .int .i64 k∧k≤lb.length∧k+mm≤lb.length∧lb.length≤k+mm∧But (fun _=>False) w3 wr∧Hid (∀j (hj:j<im.bodies.length),j<k→dN im im.bodies[j]=true))
    case atStart=>exact⟨0,rfl,by omega,by omega,by omega,But.refl _ _,fun j hj h=>absurd h (by omega)⟩
    case round=>
     obtain⟨k,rfl,n5,n6,n7,a8,HA⟩:=hrel;have j4:=a8.kp d6.out;have j1:=(a8.block w2.heap.size l2 (fun h=>h)).trans a5;have e4:=hid j4;have i1:=ae j4;have l3:=ae j1;have i2:=a8.kc n3 f7;have m4:g<wr.heap.size:=Nat.lt_of_lt_of_le f7 a8.size;have i6:=hid j7;clear j7;obtain⟨k0,k1,k2,k3⟩:=dD j1
     by_cases hlt:k<lb.length
     ·have n2:(k:Int)<(lb.length:Int):=by omega
      have hx:=List.getElem?_eq_getElem hlt;have l5:=ah l4 a8 (fun _ _ h=>h);obtain⟨gB,m1,m2,_,a1⟩:=aD l5 (by omega);obtain⟨X,hX⟩: ∃X,lb[k]=X:=⟨_,rfl⟩;have j5:k<im.bodies.length:=by rw[←i6.out];exact hlt
      have g4:=List.getElem?_eq_getElem j5;obtain⟨bd,g3⟩: ∃bd,im.bodies[k]=bd:=⟨_,rfl⟩;rw[g3]at g4;have j2:bs[k]?=some X.1:=by rw[←HM.out,List.getElem?_map,hx,hX];rfl
      have e5:=(e7.but a8 (fun _ _ _ _ h=>h)).2 k X.1 bd j2 g4;have k9:jy im.classes im.sigs bd:=hW.bod _ (List.mem_of_getElem? g4);obtain⟨b6,b5⟩:=HF.out _ (List.getElem_mem hlt);rw[hX]at b6 b5 hx;have g7:=BtB.but b6 a8 (fun _ _ h=>h);have g6:ItB wr 0 X.2.2 X.1.items:=ah b5 a8 (fun _ _ h=>h);clear b6 b5 hX;have p0:wr.cell? ⟨gB,k*5,none⟩=some (.int .u8 X.1.cls.toNat):=a1 _ _ (aR (k:=0) hx (by omega));have p1:wr.cell? ⟨gB,k*5+1,none⟩=some (.int .i64 X.1.meth):=a1 _ _ (aR (k:=1) hx (by omega));have p2:wr.cell? ⟨gB,k*5+2,none⟩=some (.int .u8 X.1.ans.toNat):=a1 _ _ (aR (k:=2) hx (by omega));have p3:wr.cell? ⟨gB,k*5+3,none⟩=some X.2.1:=a1 _ _ (aR (k:=3) hx (by omega))
      have p4:wr.cell? ⟨gB,k*5+4,none⟩=some X.2.2:=a1 _ _ (aR (k:=4) hx (by omega));obtain⟨⟨xc,xm,xa,xl,xi⟩,xv,xw⟩:=X;dsimp only at p0 p1 p2 p3 p4 g7 g6 e5;obtain⟨al,capl,rfl⟩:=aq g7;obtain⟨ai,capi,rfl⟩:=aq g6;have b2:=f4.but a8;have n1:xi.length≤24:=by have h1:xi.length=bd.code.length:=e5.its.len;have:=k9.len;omega
      have g2:=pZ g (im.classes.map toX) im.sigs xc xm xa al ai capl capi xl xi bd.code wr (by rw[List.length_map];have:=hW.nc;omega) (by have:=hW.ns;omega) n1 b2.cls b2.met g7 g6 e5.its
      have e1:xZ (im.classes.map toX) im.sigs xl bd.code xa=dN im bd:=by
       have h1:xl=bd.locals:=e5.loc;have h2:xa=(aW im.sigs bd).ans:=e5.ans;rw[h1,h2];exact zE hW k9
      rw[e1]at g2;unfold hdV at g2;have i5:=hid g2;subst m1
      have g0:Hid ((dN im bd=false→im.bodies.findIdx? (fun b=> !dN im b)=some k)∧(dN im bd=true→ ∀j (hj:j<im.bodies.length),j<k+1→dN im im.bodies[j]=true)):=by
       refine hid ⟨fun h=> ?_,fun h j hj hjk=> ?_⟩
       ·rw[List.findIdx?_eq_some_iff_getElem];exact⟨j5,by rw[g3,h];rfl,fun j hj=>by rw[HA.out j (by omega) hj];simp⟩
       ·rcases Nat.lt_or_ge j k with h'|h'
        ·exact HA.out j hj h'
        ·have:j=k:=by omega
         subst this;rw[g3];exact h
      clear g2 e1 a1 hx j2 g4 g3 g6 g7;go_wp2_with fail;refine i5.out.mono ?_;rintro en w4 ⟨j0,rfl⟩;have e9:=a8.trans j0;have f5:=(j0.block w.heap.size i1 (fun h=>h)).trans e4.out;have l0:=hid f5;have n0:=ae f5;obtain⟨q0,q1,q2,q3⟩:=dD f5;obtain⟨f0,f1,f2,f3⟩:=gC f5;clear i5 p0 p1 p2 p3 p4 i2 f5 k0 k1 k2 k3
      cases hbt:dN im bd with
      |false=>
       have h0:=hid (g0.out.1 hbt);clear hbt g0;go_wp2_with fail;have h9:=dJ l0.out (.int .i64 4) (.int .i64 k) (.pointer none) (.slice none 0 0);have a0:=ex w4 w.heap.size (.int .i64 4) (.int .i64 k) (.pointer none) (.slice none 0 0);unfold mN at h9 a0;revert h9 a0;generalize ((((w4.setCell ⟨w.heap.size,0,none⟩ (.int .i64 4)).setCell ⟨w.heap.size,1,none⟩ (.int .i64 k)).setCell ⟨w.heap.size,2,none⟩ (.pointer none)).setCell ⟨w.heap.size,3,none⟩ (.slice none 0 0))=w9;intro h9 a0;obtain⟨r0,r1,r2,r3⟩:=dD h9;exact bodyPost_ret (v:= .agg #[.int .i64 4,.int .i64 k,.pointer none,.slice none 0 0]) (by simp[results,Tryz.results60,go_sem,r0,r1,r2,r3]) rfl ⟨(e8.trans e9).next a0 (fun k' hk' h=>by omega),by unfold jH;rw[HL.out];simp only[h0.out]⟩
      |true=>
       have HY:=hid (g0.out.2 hbt);clear hbt g0;go_wp2_with fail
       go_roundg (lb.length-(k+1))
       case measure=>omega
       case rel=>exact⟨k+1,by simp,by omega,by omega,by omega,e9,HY⟩
     ·have n2: ¬(k:Int)<(lb.length:Int):=by omega
      have h0:Hid (im.bodies.findIdx? (fun b=> !dN im b)=none):=by
       refine hid ?_;rw[List.findIdx?_eq_none_iff];intro x hx;obtain⟨j,hj,rfl⟩:=List.getElem_of_mem hx;simp[HA.out j hj (by have:=i6.out;omega)]
      clear HA;obtain⟨q0,q1,q2,q3⟩:=dD e4.out;obtain⟨f0,f1,f2,f3⟩:=gC e4.out;have b2:=f4.but a8;go_wp2_with fail;have h9:=dJ e4.out (.int .i64 0) (.int .i64 0) (.pointer (some ⟨g,0,none⟩)) (.slice none 0 0);have a0:=ex wr w.heap.size (.int .i64 0) (.int .i64 0) (.pointer (some ⟨g,0,none⟩)) (.slice none 0 0);unfold mN at h9 a0;revert h9 a0;generalize ((((wr.setCell ⟨w.heap.size,0,none⟩ (.int .i64 0)).setCell ⟨w.heap.size,1,none⟩ (.int .i64 0)).setCell ⟨w.heap.size,2,none⟩ (.pointer (some ⟨g,0,none⟩))).setCell ⟨w.heap.size,3,none⟩ (.slice none 0 0))=w9;intro h9 a0;obtain⟨r0,r1,r2,r3⟩:=dD h9
      have h6:eZ w9 g im:=b2.off a0 (by omega) (fun k' cur e hh he h8=>by
       rw[h8,e4.out]at hh;injection hh with hh;injection hh with _ h2;rw[←h2]at he;revert he
       decide)
      exact bodyPost_ret (v:= .agg #[.int .i64 0,.int .i64 0,.pointer (some ⟨g,0,none⟩),.slice none 0 0]) (by simp[results,Tryz.results60,go_sem,r0,r1,r2,r3]) rfl ⟨(e8.trans a8).next a0 (fun k' hk' h=>by omega),by unfold jH;rw[HL.out];simp only[h0.out];exact⟨g,rfl,hW,h6⟩⟩
theorem vE (s:ByteArray) (w:World) (hmax:s.size≤maxLen):
  Calls Tryz.prog 33 #[.string s] w fun en w'=>en= .returned (.tuple #[.int .i64 (eC s).1,.int .i64 (eC s).2])∧But (fun _=>False) w w':=by
 have key:Calls Tryz.prog 60 #[.string s] w fun en w'=>But (fun _=>False) w w'∧ ∃p ao cap n,en= .returned (.agg #[.int .i64 (eC s).1,.int .i64 (eC s).2,.pointer p,.slice ao n cap]):=by
  refine(gJ s w hmax).mono ?_;rintro en w' ⟨hB,hE⟩;refine⟨hB,?_⟩;unfold jH at hE;unfold eC
  cases hl:ep s with
  |error e=>
   rw[hl]at hE;obtain⟨e,p⟩:=e;exact⟨_,_,_,_,hE⟩
  |ok im=>
   rw[hl]at hE;simp only at hE⊢
   cases ht:im.bodies.findIdx? (fun b=> !dN im b)with
   |some k=>rw[ht]at hE;exact⟨_,_,_,_,hE⟩
   |none=>
    rw[ht]at hE;obtain⟨g,h1,_⟩:=hE;exact⟨_,_,_,_,h1⟩
 have HK:=hid key;clear key;obtain⟨E,hE⟩: ∃E,eC s=E:=⟨_,rfl⟩;rw[hE]at HK;rw[hE];clear hE;obtain⟨e,p⟩:=E;dsimp only at HK⊢
 go_in
 go_wp2_with fail;refine HK.out.mono ?_;rintro en w1 ⟨a4,p1,ao,cap,n,rfl⟩;go_wp2_with fail;have a2:But (fun _=>False) w1 (w1.alloc (.cells #[.int .i64 e,.int .i64 p,.pointer p1,.slice ao n cap] 60)):=But.alloc _ _ _;have a1:=heap_alloc_new w1 (.cells #[.int .i64 e,.int .i64 p,.pointer p1,.slice ao n cap] 60);revert a2 a1;generalize (w1.alloc (.cells #[.int .i64 e,.int .i64 p,.pointer p1,.slice ao n cap] 60))=W;intro a2 a1;obtain⟨k0,k1,k2,k3⟩:=dD a1;have a3:=ae a1;have a0:But (fun _=>False) W W.drew:=But.drew _ _;refine ck (But (fun _=>False) W) 5 (by kernel_rfl) ?_;have fSA:=hid (fun wS (h:(But (fun _=>False) W) wS)=>(And.intro (h.kc k0 a3) (h.kc k1 a3)))
 refine ay (k:=2) (v:= ?vA2) rfl (by decide) (by kernel_rfl) (fun _ _ _ h=>h) rfl a0 ?yA2 ?rA2
 case yA2=>intro wS h;obtain⟨q0,q1⟩:=fSA.out wS h;clear h;go_simp;try rfl
 dsimp only[Act.put]
 try simp only[aK]
 refine ay (k:=3) (v:= ?vA3) rfl (by decide) (by kernel_rfl) (fun _ _ _ h=>h) rfl a0 ?yA3 ?rA3
 case yA3=>intro wS h;obtain⟨q0,q1⟩:=fSA.out wS h;clear h;go_simp;try rfl
 dsimp only[Act.put]
 try simp only[aK]
 refine ay (k:=0) (v:= ?vA0) rfl (by decide) (by kernel_rfl) (fun _ _ _ h=>h) rfl a0 ?yA0 ?rA0
 case yA0=>intro wS h;obtain⟨q0,q1⟩:=fSA.out wS h;clear h;go_simp;try rfl
 dsimp only[Act.put]
 try simp only[aK]
 refine ay (k:=1) (v:= ?vA1) rfl (by decide) (by kernel_rfl) (fun _ _ _ h=>h) rfl a0 ?yA1 ?rA1
 case yA1=>intro wS h;obtain⟨q0,q1⟩:=fSA.out wS h;clear h;go_simp;try rfl
 dsimp only[Act.put]
 try simp only[aK]
 try clear fSA
 refine aA (k:=4) rfl (by decide) (by kernel_rfl) ?_;intro KS hKS;go_simp;refine hKS.out _ _ (fun _=>a0) ?_;clear hKS KS;refine aA (k:=5) rfl (by decide) (by kernel_rfl) ?_;intro KS hKS;go_simp;refine hKS.out _ _ nofun ?_;clear hKS KS;refine b7 rfl (by kernel_rfl) ?_;go_wp2_with fail;exact bodyPost_ret (v:= .tuple #[.int .i64 e,.int .i64 p]) (by simp[results,Tryz.results33,go_sem]) rfl ⟨rfl,(a4.trans a2).trans a0⟩
end
end Go.Proofs.YtpfkkmacakjmbaaGreatDoor
