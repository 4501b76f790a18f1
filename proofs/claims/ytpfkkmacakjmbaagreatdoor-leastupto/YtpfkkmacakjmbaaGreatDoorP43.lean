import Derived.Test.YtpfkkmacakjmbaaGreatDoorP42
import Derived.Test.YtpfkkmacakjmbaaGreatDoorP37
set_option maxRecDepth 100000
set_option maxHeartbeats 6400000
set_option linter.unusedSimpArgs false
set_option linter.unusedVariables false
namespace Go.Proofs.YtpfkkmacakjmbaaGreatDoor
section
open Go Go.RowKit Sp
attribute [local go_sem ↓] Go.wp_at_zero Go.wp_at_succ
theorem zS {l:List Ins} (h:full 1 l):0<l.length:=by
 cases l with
 |nil=>cases h
 |cons=>simp
theorem nX (b:Nat) (im:Img) (w:World) (hT:eZ w b im) (hW:gR im) (ht:eP w):Calls Tryz.prog 62 #[.pointer (some ⟨b,0,none⟩)] w (Bi w 1000000):=by
 have f6: ∀x∈im.classes.map toX,x.fields.length≤1000:=by
  intro x hx;obtain⟨c,hc,rfl⟩:=List.mem_map.1 hx;obtain⟨j,hj⟩:=List.mem_iff_getElem?.1 hc;have h1:=(hW.cls j c hj).2.2.1;have h2:=(List.getElem?_eq_some_iff.1 hj).1;have h3:=hW.nc
  show c.fields.length≤1000
  omega
 obtain⟨bs,⟨v2,g5,e8,lb,b2,a5,f0⟩,b1⟩:=hT.bod;have c7:=hid (qh b _ _ w hT.cls hT.met (by have:=hW.nc;simp;omega) f6 (by have:=hW.ns;omega));obtain⟨ab,cb,rfl⟩:=aq b2;have h5:lb.length=im.bodies.length:=by rw[←b1.1,←a5];simp
 have h4:=hW.nb
 have b0:=hid (fun(k:Nat) (x:ba×Value×Value) (hx:lb[k]?=some x)=>show∃d∈im.bodies,BdN w 0 im.sigs x.1 d from by
  have hk:=(List.getElem?_eq_some_iff.1 hx).1;have h1:bs[k]?=some x.1:=by rw[←a5];simp[hx]
  have h2:=List.getElem?_eq_getElem (show k<im.bodies.length by omega);exact⟨_,List.getElem_mem _,b1.2 k _ _ h1 h2⟩)
 have f2:=hid b2;have f3:=hid f0;have HW:=hid hW;have HT:=hid ht;clear b2 f0 hW ht hT b1 a5;have g2:lb.length≤7:=by omega
 go_in
 go_wp2_with fail;refine c7.out.mono ?_;rintro en w1 ⟨S,rfl,z0,z,e0⟩;clear c7;go_wp2_with fail
 go_loopg [3,4] lb.length (fun mm os ks wr=> ∃(k:Nat) (S:ByteArray),os= .string S∧0<S.size∧S.size≤40000+30000*k∧ks= .int .i64 k∧k≤lb.length∧k+mm≤lb.length∧lb.length≤k+mm∧But (fun _=>False) w wr)
 case atStart=>exact⟨0,_,rfl,z0,by omega,rfl,by omega,by omega,by omega,e0⟩
 case round=>
  clear z0 z e0;obtain⟨k,S',rfl,z0,h6,rfl,g7,f8,h0,a2⟩:=hrel;clear f8;have c2:=a2.kc g5 e8;have e9:b<wr.heap.size:=Nat.lt_of_lt_of_le e8 a2.size
  by_cases hlt:k<lb.length
  ·have g0:(k:Int)<(lb.length:Int):=by omega
   obtain⟨x,hx⟩: ∃x,lb[k]=x:=⟨_,rfl⟩;have a3:=List.getElem?_eq_getElem hlt;rw[hx]at a3;obtain⟨d,hd,hX⟩:=b0.out k x a3;obtain⟨b4,b3⟩:=f3.out x (List.mem_of_getElem? a3);obtain⟨X,vl,vi⟩:=x;dsimp only at b4 b3 hX;have a6:=HW.out.bod d hd;obtain⟨g,e1,a7,g6,a0⟩:=aD (ah f2.out a2 (fun _ _ h=>h)) (by omega)
   cases e1
   have q0:wr.cell? ⟨g,k*5,none⟩=some _:=a0 _ _ (aR (k:=0) a3 (by omega));have q1:wr.cell? ⟨g,k*5+1,none⟩=some _:=a0 _ _ (aR (k:=1) a3 (by omega));have q2:wr.cell? ⟨g,k*5+2,none⟩=some _:=a0 _ _ (aR (k:=2) a3 (by omega));have q3:wr.cell? ⟨g,k*5+3,none⟩=some vl:=a0 _ _ (aR (k:=3) a3 (by omega));have q4:wr.cell? ⟨g,k*5+4,none⟩=some vi:=a0 _ _ (aR (k:=4) a3 (by omega))
   have a8: ∀y∈d.code,(bp y).num≤3000:=fun y hy=>by
    have:=(a6.code y hy).num;unfold bp bj
    split<;>(dsimp only;omega)
   have a4:jz wr 0 X.items d.code:=by
    refine⟨hX.its.len,fun k y x hy hx=> ?_⟩;obtain⟨e1,e2,e3,e4,e5⟩:=hX.its.at' k y x hy hx;exact⟨e1,e2,e3,e4,ah e5 a2 (fun _ _ h=>h)⟩
   have b6:=hid (qg (X:=X) (vl:=vl) (ah b3 a2 (fun _ _ h=>h)) a4 a6.len (zS a6.full) a8);have g3:X.locals.length≤1000:=by rw[hX.loc];have:=a6.loc.1;omega
   have g4:X.meth≤3000:=by
    rw[hX.meth]
    show d.meth.toNat≤3000
    have:=HW.out.ns;rcases a6.cls with h|h<;>omega
   have d6:=hid (fun w1 (hB:But (fun _=>False) wr w1) v l=>nW X vl vi v l w1 (b4.but (a2.trans hB) (fun _ _ h=>h)) g3 g4);clear a0 hx a3 hX b4 b3 a6 a8 a4 hd;go_wp2_with fail;refine b6.out.mono ?_;rintro en w2 ⟨a1,v',l,rfl,e7,g1,f1⟩;have b5:=hid (d6.out w2 a1 v' l e7 g1 f1 (HT.out.but (a2.trans a1)));have f7:g<w2.heap.size:=Nat.lt_of_lt_of_le a7 a1.size;replace q0:=a1.kc q0 a7;replace q1:=a1.kc q1 a7;replace q2:=a1.kc q2 a7;replace q3:=a1.kc q3 a7;replace q4:=a1.kc q4 a7;replace c2:=a1.kc c2 e9;have f5:b<w2.heap.size:=Nat.lt_of_lt_of_le e9 a1.size;clear b6 d6 e7 f1;go_wp2_with fail;refine b5.out.mono ?_
   rintro en w3 ⟨S3,rfl,z3,e6⟩;have h7:S'.size+S3.size≤1000000:=by omega
   have f4:=(a2.trans a1).trans e6;clear b5 a1 e6 q0 q1 q2 q3 q4 c2;go_wp2_with fail
   go_roundg (lb.length-(k+1))
   case measure=>omega
   case rel=>exact⟨k+1,_,rfl,by rw[bY];omega,by rw[bY];omega,by simp,by omega,by omega,by omega,f4⟩
  ·have g0: ¬(k:Int)<(lb.length:Int):=by omega
   go_wp2_with fail;exact nt Tryz.results62 rfl rfl ⟨_,rfl,z0,by omega,a2⟩
theorem qi (s:ByteArray) (w:World) (hmax:s.size≤maxLen) (ht:eP w):
  Calls Tryz.prog 35 #[.string s] w fun en w'=>(∃r:ByteArray,en= .returned (.tuple #[.string r,.int .i64 (eC s).1])∧((eC s).1=0→0<r.size))∧But (fun _=>False) w w':=by
 have key:Calls Tryz.prog 60 #[.string s] w fun en w'=>But (fun _=>False) w w'∧((∃p:Int,en= .returned (.agg #[.int .i64 (eC s).1,.int .i64 p,.pointer none,.slice none 0 0])∧0<(eC s).1)∨((eC s).1=0∧ ∃im g,en= .returned (.agg #[.int .i64 0,.int .i64 0,.pointer (some ⟨g,0,none⟩),.slice none 0 0])∧eZ w' g im∧gR im)):=by
  refine(gJ s w hmax).mono ?_;rintro en w' ⟨hB,hE⟩;refine⟨hB,?_⟩;unfold jH at hE;unfold eC
  cases hl:ep s with
  |error e=>
   rw[hl]at hE;obtain⟨e,p⟩:=e;exact Or.inl ⟨p,hE,(pz hl).1⟩
  |ok im=>
   rw[hl]at hE;simp only at hE⊢
   cases ht:im.bodies.findIdx? (fun b=> !dN im b)with
   |some k=>
    rw[ht]at hE;exact Or.inl ⟨k,hE,by show 0<4;omega⟩
   |none=>
    rw[ht]at hE;obtain⟨g,h1,h2,h3⟩:=hE;exact Or.inr ⟨rfl,im,g,h1,h3,h2⟩
 have HK:=hid key;have HT:=hid ht;clear key ht;generalize (eC s).1=e at*
 go_in
 go_wp2_with fail;refine HK.out.mono ?_;rintro en w1 ⟨a0,a3⟩;clear HK;rcases a3 with⟨p,rfl,he⟩ | ⟨rfl,im,g,rfl,a1,hR⟩
 ·have a4:((e:Int)!=0)=true:=by rw[bne_iff_ne];omega
  go_wp2_with fail
  go_quiet (fail)
  go_wp2_with fail;exact bodyPost_ret (v:= .tuple #[.string ⟨#[]⟩,.int .i64 e]) (by simp[results,Tryz.results35,go_sem]) rfl ⟨⟨_,rfl,by omega⟩,(a0.trans (But.alloc _ _ _)).trans (But.drewN _ _ _)⟩
 ·have HE:=hid (fun ob=>nX g im (w1.alloc ob) (a1.but (But.alloc (fun _=>False) w1 ob)) hR ((HT.out.but a0).but (But.alloc _ w1 ob)));clear a1;go_wp2_with fail;refine(HE.out _).mono ?_;rintro en w2 ⟨S,rfl,z0,z,a2⟩;clear HE;go_wp2_with fail;exact bodyPost_ret (v:= .tuple #[.string S,.int .i64 0]) (by simp[results,Tryz.results35,go_sem]) rfl ⟨⟨S,rfl,z0⟩,(a0.trans (But.alloc _ _ _)).trans a2⟩
end
end Go.Proofs.YtpfkkmacakjmbaaGreatDoor
