import Derived.Test.YtpfkkmacakjmbaaGreatDoorP33
import Derived.Test.YtpfkkmacakjmbaaGreatDoorP30
set_option maxRecDepth 100000
set_option maxHeartbeats 6400000
set_option linter.all false
namespace Go.Proofs.YtpfkkmacakjmbaaGreatDoor
open Proofs.Tryz
section
open Go Go.RowKit Sp
attribute [local go_sem ↓] dG dH
theorem CE {zx:List V} (hl:2<=zx.length):1<=(bB zx).length/\(bB zx).length<=zx.length/\bE (bB zx)=fk zx/\bB (bB zx)=dC zx:=by
 have e:(bB zx).length=zx.length-1:=by simp[bB]
 refine⟨by omega,by omega,?_,?_⟩
 .unfold bE fk;rw[e];simp only[bB,co];rw[List.getElem?_take_of_lt (by omega)]
  rfl
 .rw[show bB (bB zx)=(bB zx).take ((bB zx).length-1)from rfl,e];simp only[bB,dC,List.take_take]
  congr 1
  omega
section
variable {K:Dk} {w0 w w':World} {hv:Value} {fo:List Value} {s:Ev} {ds:List Fd} {d:Fd} {g cap:Nat} {x:Ins}
theorem ky (h:DmQ K w0 w 0 12 hv (.slice (some ⟨g,0,none⟩) (ds.length+1) cap) fo s (ds++ [d])) (h4:d.zx.length<=4000) (hl:2<=d.zx.length):
  Calls prog 175 #[.pointer (some ⟨g,ds.length*4,none⟩)] w λen w'=>en= .returned (.agg #[.int .u8 (bE d.zx).K,.int .i64 (bE d.zx).N])/\But (· =g) w w'/\ ∀Y,B_ w' Y->Calls prog 175 #[.pointer (some ⟨g,ds.length*4,none⟩)] Y λen w''=>en= .returned (.agg #[.int .u8 (fk d.zx).K,.int .i64 (fk d.zx).N])/\But (· =g) Y w''/\ ∃sv,DmQ K w0 w'' 0 12 hv (.slice (some ⟨g,0,none⟩) (ds.length+1) cap) fo s (ds++ [⟨d.q,d.pc,dC d.zx,d.loc,sv,d.lv⟩]):=by
 obtain⟨t1,t2,t3,t4⟩:=CE hl;refine(gv h (by omega) h4).mono ?_;rintro en w1 ⟨rfl,a0,sv,hM⟩;refine⟨rfl,a0,λY hY=> ?_⟩;have:=gv (hM.new hY) t1 (by simp only;omega);simp only[t3,t4]at this;exact this
theorem EA (h:DmQ K w0 w 0 12 hv (.slice (some ⟨g,0,none⟩) (ds.length+1) cap) fo s (ds++ [d])) (h4:d.zx.length<=4000) (hl:2<=d.zx.length) (ho:x.op.toNat=101):
  Calls prog 115 #[.pointer (some ⟨K.mb,0,none⟩),.pointer (some ⟨g,ds.length*4,none⟩),br x] w λen w'=>en= .returned (.tuple #[])/\jB K w0 g cap ds d.q s d.pc (dC d.zx++ [if fk d.zx=bE d.zx then .i 1 else .i 0]) d.loc 12 w':=by
 have HP:=hid (λY (hY:B_ w Y)=>ky (h.new hY) h4 hl);have b3:=h.cs.1;have a8:(dC d.zx).length<=4000:=by simp[dC];omega
 clear h;unfold br;rw[ho];clear ho;generalize bE d.zx=v at*;generalize fk d.zx=u at*;obtain⟨bb,a2⟩: ∃bb:Bool,(u.K=v.K/\u.N=v.N↔bb=true):=⟨decide (u.K=v.K/\u.N=v.N),by simp⟩
 have hr:(if u=v then V.i 1 else V.i 0)=if bb=true then .i 1 else .i 0:=by
  by_cases e:u=v
  .subst e;rw[if_pos rfl,if_pos (a2.1 ⟨rfl,rfl⟩)]
  .rw[if_neg e,if_neg (λhb=>e ?_)];obtain⟨h1,h2⟩:=a2.2 hb
   cases u<;>cases v<;>simp[V.K,V.N]at h1 h2⊢ <;>omega
 rw[hr];generalize a7:(if bb=true then V.i 1 else V.i 0)=rv;have a4:=hid a7;have a3:=hid a2;clear hr a2 a7
 go_in
 go_wp2_with fail;refine(HP.out _ (ag _ _ _)).mono ?_;rintro en w1 ⟨rfl,a5,a1⟩;replace a1:=hid a1;have b2:=a5.size;simp at b2;have b0: ¬w1.heap.size=g:=by omega
 clear HP a5;go_wp2_with fail;refine(a1.out _ (ag _ _ _)).mono ?_;rintro en w2 ⟨rfl,a6,sv,hM⟩;have hi:=(a6.block w1.heap.size (by simp) b0).trans (aO w1 _);have i0:=ce0 hi;have i1:=ce1 hi;have b4:=ae hi;have HQ:=hid (λY (hY:B_ w2 Y)=>dT (hM.new hY) rv a8);clear a1 a6 hi hM;simp only[dK]at HQ;have b1:(u.K=v.K/\u.N=v.N)\/ ¬u.K=v.K\/(u.K=v.K/\ ¬u.N=v.N):=by omega
 obtain⟨e1,e2⟩ |e1| ⟨e1,e2⟩:=b1
 .have HV:Hid (rv= .i 1):=by show _=_;rw[<-a4.out,if_pos (a3.out.1 ⟨e1,e2⟩)]
  rw[HV.out]at HQ;simp only[nA,nB]at HQ;go_wp2_with fail;refine(nU true _).mono ?_;rintro en w3 ⟨rfl,a0⟩;simp only[dK,if_true,if_false,dj,nA,nB];go_wp2_with fail;refine(HQ.out _ (((ag _ _ _).trans a0).trans (ag _ _ _))).mono ?_;rintro en w4 ⟨rfl,sv',hM⟩;clear HQ a0;go_wp2_with fail;go_end0;rw[HV.out];exact⟨rfl,_,_,_,_,hM⟩
 .have HV:Hid (rv= .i 0):=by show _=_;rw[<-a4.out,if_neg (λh=>e1 (a3.out.2 h).1)]
  rw[HV.out]at HQ;simp only[nA,nB]at HQ;go_wp2_with fail;refine(nU false _).mono ?_;rintro en w3 ⟨rfl,a0⟩;simp only[dK,if_true,if_false,dj,nA,nB];go_wp2_with fail;refine(HQ.out _ (((ag _ _ _).trans a0).trans (ag _ _ _))).mono ?_;rintro en w4 ⟨rfl,sv',hM⟩;clear HQ a0;go_wp2_with fail;go_end0;rw[HV.out];exact⟨rfl,_,_,_,_,hM⟩
 .have HV:Hid (rv= .i 0):=by show _=_;rw[<-a4.out,if_neg (λh=>e2 (a3.out.2 h).2)]
  rw[HV.out]at HQ;simp only[nA,nB]at HQ;go_wp2_with fail;refine(nU false _).mono ?_;rintro en w3 ⟨rfl,a0⟩;simp only[dK,if_true,if_false,dj,nA,nB];go_wp2_with fail;refine(HQ.out _ (((ag _ _ _).trans a0).trans (ag _ _ _))).mono ?_;rintro en w4 ⟨rfl,sv',hM⟩;clear HQ a0;go_wp2_with fail;go_end0;rw[HV.out];exact⟨rfl,_,_,_,_,hM⟩
theorem EB (h:DmQ K w0 w 0 12 hv (.slice (some ⟨g,0,none⟩) (ds.length+1) cap) fo s (ds++ [d])) (h4:d.zx.length<=4000) (hl:2<=d.zx.length) {a b:Int} (ha:fk d.zx= .i a) (hb:bE d.zx= .i b) (a1: -2147483648<=a) (a2:a<2147483648) (b1: -2147483648<=b) (b2:b<2147483648) (hop:x.op.toNat=43\/x.op.toNat=45\/x.op.toNat=42\/x.op.toNat=60\/x.op.toNat=61):
  Calls prog 115 #[.pointer (some ⟨K.mb,0,none⟩),.pointer (some ⟨g,ds.length*4,none⟩),br x] w λen w'=>en= .returned (.tuple #[])/\jB K w0 g cap ds d.q s d.pc (dC d.zx++ [.i (oI x.op.toNat a b)]) d.loc 12 w':=by
 have HP:=hid (λY (hY:B_ w Y)=>ky (h.new hY) h4 hl);have b3:=h.cs.1;have a7:(dC d.zx).length<=4000:=by simp[dC];omega
 have HA:=hid (λw=>Cc x.op.toNat hop a b a1 a2 b1 b2 w);rw[ha,hb]at HP;simp only[nA,nB]at HP;clear h ha hb a1 a2 b1 b2;unfold br;generalize x.op.toNat=op at*;generalize oI op a b=r at*;obtain rfl|rfl|rfl|rfl|rfl:=hop
 all_goals
  go_in
  go_wp2_with fail;refine(HP.out _ (ag _ _ _)).mono ?_;rintro en w1 ⟨rfl,a3,a0⟩;replace a0:=hid a0;have b0:=a3.size;simp at b0;have a8: ¬w1.heap.size=g:=by omega
  have a5:=(a3.block w.heap.size (by simp) (by show¬w.heap.size=g;omega)).trans (aO w _);clear HP a3;go_wp2_with fail;refine(a0.out _ (ag _ _ _)).mono ?_;rintro en w2 ⟨rfl,a4,sv,hM⟩;have hi:=(a4.block w1.heap.size (by simp) a8).trans (aO w1 _);have i1:=ce1 hi;have b4:=ae hi;have hk:=(a4.block w.heap.size (by simp;omega) (by show¬w.heap.size=g;omega)).trans (((ag (λ_=>False) _ _).block w.heap.size (by omega) (λh=>h)).trans a5);have k0:=aX w2 _ 0 _ _ (0,0) hk;simp at k0;have b5:=ae hk;have HQ:=hid (λY (hY:B_ w2 Y)=>dT (hM.new hY) (.i r) a7);clear a0 a4 hi hM hk a5;simp only[dK,nA,nB]at HQ
  go_wp2_with fail;refine(HA.out _).mono ?_;rintro en wx ⟨rfl,a6⟩;rw[a6];clear a6 wx;go_wp2_with fail;refine(HQ.out _ (ag _ _ _)).mono ?_;rintro en w4 ⟨rfl,sv',hM⟩;clear HQ;go_wp2_with fail;go_end0;exact⟨rfl,_,_,_,_,hM⟩
theorem EC (h:DmQ K w0 w 0 12 hv (.slice (some ⟨g,0,none⟩) (ds.length+1) cap) fo s (ds++ [d])) (h4:d.zx.length<=4000) (hl:2<=d.zx.length) {a b:Int} (ha:fk d.zx= .i a) (hb:bE d.zx= .i b) (a1: -2147483648<=a) (a2:a<2147483648) (b1: -2147483648<=b) (b2:b<2147483648) (ho:x.op.toNat=47):
  Calls prog 115 #[.pointer (some ⟨K.mb,0,none⟩),.pointer (some ⟨g,ds.length*4,none⟩),br x] w λen w'=>en= .returned (.tuple #[])/\((b=0/\jB K w0 g cap ds d.q s d.pc (dC d.zx) d.loc 7 w')\/(b≠0/\jB K w0 g cap ds d.q s d.pc (dC d.zx++ [.i (w32 (Int.tdiv a b))]) d.loc 12 w')):=by
 have HP:=hid (λY (hY:B_ w Y)=>ky (h.new hY) h4 hl);have b6:=h.cs.1;have a8:(dC d.zx).length<=4000:=by simp[dC];omega
 rw[ha,hb]at HP;simp only[nA,nB]at HP;obtain⟨q,hq⟩: ∃q,Int.tdiv a b=q:=⟨_,rfl⟩;have b4:q.natAbs<=a.natAbs:=by rw[<-hq,Int.natAbs_tdiv];exact Nat.div_le_self _ _
 rw[hq];have e0:wrap64 q=q:=IntWalk.wrap64_in q ⟨by omega,by omega⟩;have HW:=hid (λw=>jR q (by omega) (by omega) w);clear h ha hb b1 b2 b4;unfold br;rw[ho];clear ho;generalize a5:w32 q=r at*;clear a5
 go_in
 go_wp2_with fail;refine(HP.out _ (ag _ _ _)).mono ?_;rintro en w1 ⟨rfl,a3,a0⟩;replace a0:=hid a0;have b5:=a3.size;simp at b5;have b3: ¬w1.heap.size=g:=by omega
 have a6:=(a3.block w.heap.size (by simp) (by show¬w.heap.size=g;omega)).trans (aO w _);clear HP a3;go_wp2_with fail;refine(a0.out _ (ag _ _ _)).mono ?_;rintro en w2 ⟨rfl,a4,sv,hM⟩;have hi:=(a4.block w1.heap.size (by simp) b3).trans (aO w1 _);have i1:=ce1 hi;have b9:=ae hi;have hk:=(a4.block w.heap.size (by simp;omega) (by show¬w.heap.size=g;omega)).trans (((ag (λ_=>False) _ _).block w.heap.size (by omega) (λh=>h)).trans a6);have k0:=aX w2 _ 0 _ _ (0,0) hk;simp at k0;have c7:=ae hk;have HQ:=hid (λY (hY:B_ w2 Y)=>dT (hM.new hY) (.i r) a8);have d6:=hM.lt;have c9:=hM.mc.cs.2.2.2.2.2.2.2.2.2
 have z9:=hM.mc.fz 9;have HM:=hid hM;clear a0 a4 hi hM hk a6;simp only[dK,nA,nB]at HQ
 by_cases h0:b=0
 .have b0:(b==0)=true:=by simp[h0]
  have H0:=hid h0;clear h0;go_wp2_with fail;go_end0;exact⟨rfl,Or.inl ⟨H0.out,_,_,_,_,(HM.out.own (val':=0) (e':=7) (s':=s) (au _ K.mb 9 (.int .i64 7)) rfl (HM.out.mc.set9 7)).new (ag _ _ _)⟩⟩
 .have b0:(b==0)=false:=by simp[h0]
  have H0:=hid h0;clear h0;go_wp2_with fail;refine(HW.out _).mono ?_;rintro en wx ⟨rfl,a7⟩;rw[a7];clear a7 wx;go_wp2_with fail;refine(HQ.out _ (ag _ _ _)).mono ?_;rintro en w4 ⟨rfl,sv',hM⟩;clear HQ;go_wp2_with fail;go_end0;exact⟨rfl,Or.inr ⟨H0.out,_,_,_,_,hM⟩⟩
theorem DN (h:DmQ K w0 w 0 12 hv (.slice (some ⟨g,0,none⟩) (ds.length+1) cap) fo s (ds++ [d])) (hx:x.b<100) (ho:x.op.toNat=106):
  Calls prog 113 #[.pointer (some ⟨K.mb,0,none⟩),.pointer (some ⟨g,ds.length*4,none⟩),br x] w λen w'=>en= .returned (.tuple #[])/\jB K w0 g cap ds d.q s ((x.b:Int)-1) d.zx d.loc 12 w':=by
 obtain⟨a1,_,_,_,c1,_,_,fz⟩:=h.cs;have f1:=fz (ds.length*4+1);have a0:=hid (h.pc ((x.b:Int)-1));have a2:=er ((x.b:Int)-1) (by omega) (by omega);clear fz h;unfold br;rw[ho];clear ho;generalize ds.length*4=o at*
 go_in
 go_wp2_with fail;go_end0;exact⟨rfl,_,_,_,_,a0.out.new (ag _ _ _)⟩
theorem DO (h:DmQ K w0 w 0 12 hv (.slice (some ⟨g,0,none⟩) (ds.length+1) cap) fo s (ds++ [d])) (h4:d.zx.length<=4000) (hl:1<=d.zx.length) (ho:x.op.toNat=100):
  Calls prog 113 #[.pointer (some ⟨K.mb,0,none⟩),.pointer (some ⟨g,ds.length*4,none⟩),br x] w λen w'=>en= .returned (.tuple #[])/\jB K w0 g cap ds d.q s d.pc (bB d.zx) d.loc 12 w':=by
 have HP:=hid (λY (hY:B_ w Y)=>gv (h.new hY) hl h4);obtain⟨a2,_,_,_,_,c2,_,_⟩:=h.cs;obtain⟨a,c,a1⟩:=aw h.st;rw[a1]at c2;have hn:=tf d.zx.length 0 (by omega);clear h a1 hl;unfold br;rw[ho];clear ho;simp only[dK]at HP;generalize ds.length*4=o at*
 go_in
 go_wp2_with fail;refine(HP.out _ (ag _ _ _)).mono ?_;rintro en w1 ⟨rfl,a0,sv,hM⟩;have hi:=(a0.block w.heap.size (by simp) (by show¬w.heap.size=g;omega)).trans (aO w _);have i0:=aX w1 _ 0 _ _ (0,0) hi;simp at i0;have a3:=ae hi;have HM:=hid hM;clear HP a0 hi hM;go_wp2_with fail;go_end0;exact⟨rfl,_,_,_,_,HM.out.new (ag _ _ _)⟩
theorem DP (h:DmQ K w0 w 0 12 hv (.slice (some ⟨g,0,none⟩) (ds.length+1) cap) fo s (ds++ [d])) (h4:d.zx.length<=4000) (hl:1<=d.zx.length) (hx:x.b<d.loc.length) (ho:x.op.toNat=115):
  Calls prog 113 #[.pointer (some ⟨K.mb,0,none⟩),.pointer (some ⟨g,ds.length*4,none⟩),br x] w λen w'=>en= .returned (.tuple #[])/\jB K w0 g cap ds d.q s d.pc (bB d.zx) (d.loc.set x.b (bE d.zx)) 12 w':=by
 have HP:=hid (λY (hY:B_ w Y)=>gv (h.new hY) hl h4);obtain⟨b6,_,_,_,_,c2,_,_⟩:=h.cs;obtain⟨a,c,a7⟩:=aw h.st;rw[a7]at c2;have hn:=tf d.zx.length 0 (by omega);clear h a7 hl;unfold br;rw[ho];clear ho;simp only[dK]at HP;generalize bE d.zx=v at*
 go_in
 go_wp2_with fail;refine(HP.out _ (ag _ _ _)).mono ?_;rintro en w1 ⟨rfl,a5,sv,hM⟩;have hi:=(a5.block w.heap.size (by simp) (by show¬w.heap.size=g;omega)).trans (aO w _);have i0:=aX w1 _ 0 _ _ (0,0) hi;have i2:=aX w1 _ 2 _ _ (0,0) hi;simp at i0 i2;have b4:=ae hi;obtain⟨b2,_,_,_,_,_,c3,_⟩:=hM.cs;have a2:=hM.lo;simp only at c3 a2;obtain⟨al,cl,a4⟩:=aw a2;rw[a4]at a2 c3;obtain⟨gl,rfl,a3,b9,a0⟩:=aF a2 (by omega);obtain⟨u,hu⟩: ∃u,d.loc[x.b]?=some u:=⟨_,aH hx⟩;have q0:w1.cell? ⟨gl,x.b*2,none⟩=some (.int .u8 u.K):=a0 _ _ (bK (k:=0) hu (by omega));have q1:w1.cell? ⟨gl,x.b*2+1,none⟩=some (.int .i64 u.N):=a0 _ _ (bK (k:=1) hu (by omega))
 have z0:=gU a2 (x.b*2);have z1:=gU a2 (x.b*2+1);have HF:=hid (λY (hY:B_ w1 Y)=>(hM.new hY).setL (g:=gl) (by simp only;rw[a4];rfl) x.b v);have c9:(x.b:Int)<(d.loc.length:Int):=by omega
 clear HP a5 hi hM a2 a0 a4 hu;generalize b5:d.loc.length=ln at*;clear b5;generalize ds.length*4=o at*;go_wp2_with fail;obtain⟨X,hX⟩: ∃X,w1.alloc (.cells #[.int .u8 v.K,.int .i64 v.N] 135)=X:=⟨_,rfl⟩;have a1:B_ w1 X:=by rw[<-hX];exact ag _ _ _
 have hb:X.heap[w1.heap.size]?=some (.cells #[.int .u8 v.K,.int .i64 v.N] 135):=by rw[<-hX];exact aO _ _
 rw[hX];have b0:=aX X _ 0 _ _ (0,0) hb;have b1:=aX X _ 1 _ _ (0,0) hb;simp at b0 b1;have a6:=ae hb;replace c3:=a1.kc c3 b2;replace i2:=a1.kc i2 b4;replace q0:=a1.kc q0 a3;replace q1:=a1.kc q1 a3;replace z0:=a1.kz z0 a3;replace z1:=a1.kz z1 a3;have hz:=a1.size;have a8:g<X.heap.size:=by omega
 have b3:w.heap.size<X.heap.size:=by omega
 have c7:gl<X.heap.size:=by omega
 clear hX hb c2 i0 hz a3;refine aI (B_ X) 8 ?_;have hS:B_ X X.drew:=aD _ _
 iterate 8 (refine aQ (v:=?_) rfl hS ?_ ?_;rotate_left;(focus (intro wS h;have q0:=(h.kc c3 a8);have q1:=(h.kc i2 b3);have q2:=(h.kc b0 a6);have q3:=(h.kc b1 a6);clear h;go_simp;try rfl));dsimp only[Act.put];try simp only[cH])
 refine iC rfl ?_;go_wp2_with fail;go_end0;exact⟨rfl,_,_,_,_,(HF.out X a1).new (aD _ _)⟩
theorem DQ (h:DmQ K w0 w 0 12 hv (.slice (some ⟨g,0,none⟩) (ds.length+1) cap) fo s (ds++ [d])) (h4:d.zx.length<=4000) (hx:x.b<d.loc.length) (ho:x.op.toNat=108):
  Calls prog 113 #[.pointer (some ⟨K.mb,0,none⟩),.pointer (some ⟨g,ds.length*4,none⟩),br x] w λen w'=>en= .returned (.tuple #[])/\jB K w0 g cap ds d.q s d.pc (d.zx++ [d.loc.getD x.b .z]) d.loc 12 w':=by
 obtain⟨u,hu⟩: ∃u,d.loc[x.b]?=some u:=⟨_,aH hx⟩;rw[show d.loc.getD x.b .z=u from by rw[co,hu];rfl];have HP:=hid (λY (hY:B_ w Y)=>dT (h.new hY) u h4);obtain⟨a7,_,_,_,_,_,c3,_⟩:=h.cs;have a2:=h.lo;obtain⟨al,cl,a5⟩:=aw a2;rw[a5]at a2 c3;obtain⟨gl,rfl,a3,b0,a0⟩:=aF a2 (by omega);have q0:w.cell? ⟨gl,x.b*2,none⟩=some (.int .u8 u.K):=a0 _ _ (bK (k:=0) hu (by omega));have q1:w.cell? ⟨gl,x.b*2+1,none⟩=some (.int .i64 u.N):=a0 _ _ (bK (k:=1) hu (by omega));have b1:(x.b:Int)<(d.loc.length:Int):=by omega
 clear h a2 a5 a0 hu hx;unfold br;rw[ho];clear ho;generalize d.loc.length=ln at*;obtain⟨X,hX⟩: ∃X,w.alloc (.cells #[.int .u8 108,.int .i64 x.a,.int .i64 x.b,.int .i64 x.pos] 144)=X:=⟨_,rfl⟩;have a1:B_ w X:=by rw[<-hX];exact ag _ _ _
 have hb:X.heap[w.heap.size]?=some (.cells #[.int .u8 108,.int .i64 x.a,.int .i64 x.b,.int .i64 x.pos] 144):=by rw[<-hX];exact aO _ _
 have b2:=aX X _ 2 _ _ (0,0) hb;simp at b2;have a6:=ae hb;replace c3:=a1.kc c3 a7;replace q0:=a1.kc q0 a3;replace q1:=a1.kc q1 a3;have hz:=a1.size;have a8:g<X.heap.size:=by omega
 have a4:gl<X.heap.size:=by omega
 have HX:=hid hX;clear hX hb hz;simp only[dK]at HP;generalize ds.length*4=o at*
 go_in
 go_wp2_with fail;rw[HX.out];refine aI (B_ X) 9 ?_;have hS:B_ X X.drew:=aD _ _
 iterate 9 (refine gL (v:=?_) rfl hS ?_ ?_;rotate_left;(focus (intro wS h;have Q0:=(h.kc c3 a8);have Q1:=(h.kc b2 a6);have Q2:=(h.kc q0 a4);have Q3:=(h.kc q1 a4);clear h;go_simp;try rfl));dsimp only[Act.put];try simp only[cH])
 refine az rfl ?_;intro KS hKS;go_simp;refine(HP.out _ (a1.trans hS)).mono ?_;rintro en w1 ⟨rfl,sv,hM⟩;refine hKS.out _ _ nofun ?_;clear hKS KS HP;refine aR rfl ?_;go_wp2_with fail;go_end0;exact⟨rfl,_,_,_,_,hM⟩
theorem ED (h:DmQ K w0 w 0 12 hv (.slice (some ⟨g,0,none⟩) (ds.length+1) cap) fo s (ds++ [d])) (h4:d.zx.length<=4000) (ho:x.op.toNat=122):
  Calls prog 114 #[.pointer (some ⟨K.mb,0,none⟩),.pointer (some ⟨g,ds.length*4,none⟩),br x] w λen w'=>en= .returned (.tuple #[])/\jB K w0 g cap ds d.q s d.pc (d.zx++ [.z]) d.loc 12 w':=by
 have HP:=hid (λY (hY:B_ w Y)=>dT (h.new hY) .z h4);clear h;unfold br;rw[ho];clear ho;simp only[dK,va,vd]at HP;generalize ds.length*4=o at*
 go_in
 go_wp2_with fail;refine(HP.out _ (ag _ _ _)).mono ?_;rintro en w1 ⟨rfl,sv,hM⟩;clear HP;go_wp2_with fail;go_end0;exact⟨rfl,_,_,_,_,hM⟩
def ofV (im:Img) (s:Ev) (v:V) (y:Nat):Bool:=match v with
 | .o k=>bF im.zz 5 (s.cls k) y
 |_=>true
def qn (im:Img) (s:Ev) (v:V):Prop:=v= .z\/ ∃k ob,v= .o k/\s.heap[k]?=some ob/\ob.cls<im.zz.length
theorem DR {im:Img} {val e:Int} {fv:Value} {v:V} (h:DmQ K w0 w val e hv fv fo s ds) (hI:dX w0 K.bi im) (hw:WfC im.zz) (hv':qn im s v) (h4:s.heap.length<=4000) (y:Nat):
  Calls prog 176 #[.pointer (some ⟨K.mb,0,none⟩),dK v,.int .i64 y] w λen w'=>en= .returned (.bool (ofV im s v y))/\B_ w w':=by
 obtain rfl| ⟨k,ob,rfl,hk,hc⟩:=hv'
 .exact CC h y
 .have:=CD h hI hw hk hc h4 y;rw[show ofV im s (.o k) y=bF im.zz 5 ob.cls y from by simp only[ofV];rw[(Ev.at hk).1]];exact this
theorem EE {im:Img} (h:DmQ K w0 w 0 12 hv (.slice (some ⟨g,0,none⟩) (ds.length+1) cap) fo s (ds++ [d])) (h4:d.zx.length<=4000) (hl:1<=d.zx.length) (hI:dX w0 K.bi im) (hw:WfC im.zz) (hv':qn im s (bE d.zx)) (hh:s.heap.length<=4000) (ho:x.op.toNat=120):
  Calls prog 114 #[.pointer (some ⟨K.mb,0,none⟩),.pointer (some ⟨g,ds.length*4,none⟩),br x] w λen w'=>en= .returned (.tuple #[])/\jB K w0 g cap ds d.q s d.pc d.zx d.loc (if ofV im s (bE d.zx) x.a=true then 12 else 8) w':=by
 have HP:=hid (λY (hY:B_ w Y)=>gv (h.new hY) hl h4);have a7:=h.cs.1;have a5:(bB d.zx).length<=4000:=by simp[bB];omega
 obtain⟨a6,_,_⟩:=oW hl;have a3:=hid a6;have HO:=hid (λ(Y:World) fv ds (hM:DmQ K w0 Y 0 12 hv fv fo s ds)=>DR hM hI hw hv' hh x.a);obtain⟨b,hb⟩: ∃b,ofV im s (bE d.zx) x.a=b:=⟨_,rfl⟩;rw[hb]at HO⊢;generalize bE d.zx=v at*;clear h a6 hI hw hv' hb;unfold br;rw[ho];clear ho;simp only[dK]at HP HO
 go_in
 go_wp2_with fail;refine(HP.out _ (ag _ _ _)).mono ?_;rintro en w1 ⟨rfl,a4,sv,hM⟩;have hi:=(a4.block w.heap.size (by simp) (by show¬w.heap.size=g;omega)).trans (aO w _);have i1:=aX w1 _ 1 _ _ (0,0) hi;simp at i1;have a8:=ae hi;have HM:=hid hM;clear HP a4 hi hM;go_wp2_with fail;have a2:=HM.out.new (ag (λ_=>False) w1 (.cells #[.int .u8 v.K,.int .i64 v.N] 135));refine(HO.out _ _ _ a2).mono ?_;rintro en w2 ⟨rfl,a1⟩;have hi:=(a1.block w1.heap.size (by simp) (λh=>h)).trans (aO w1 _);have j0:=aX w2 _ 0 _ _ (0,0) hi;have j1:=aX w2 _ 1 _ _ (0,0) hi;simp at j0 j1;have b0:=ae hi;have a0:=a2.new a1;have c9:=a0.mc.cs.2.2.2.2.2.2.2.2.2
 have z9:=a0.mc.fz 9;have b1:=a0.lt;clear HO HM a2 a1 hi
 cases b
 .have HQ:=hid (dT (a0.own (val':=0) (e':=8) (s':=s) (au w2 K.mb 9 (.int .i64 8)) rfl (a0.mc.set9 8)) v a5);simp only[dK]at HQ;rw[<-a3.out]at HQ;clear a0;go_wp2_with fail;refine HQ.out.mono ?_;rintro en w3 ⟨rfl,sv',hM⟩;clear HQ;go_wp2_with fail;go_end0;exact⟨rfl,_,_,_,_,hM⟩
 .have HQ:=hid (dT a0 v a5);simp only[dK]at HQ;rw[<-a3.out]at HQ;clear a0;go_wp2_with fail;refine HQ.out.mono ?_;rintro en w3 ⟨rfl,sv',hM⟩;clear HQ;go_wp2_with fail;go_end0;exact⟨rfl,_,_,_,_,hM⟩
end
section
variable {K:Dk} {w0 w w':World} {hv:Value} {fo:List Value} {s:Ev} {ds:List Fd} {d:Fd} {g cap:Nat} {x:Ins} {im:Img}
theorem DS (h:DmQ K w0 w 0 12 hv (.slice (some ⟨g,0,none⟩) (ds.length+1) cap) fo s (ds++ [d])) (h4:d.zx.length<=4000) (hl:1<=d.zx.length) (hv':bE d.zx= .z) (ho:x.op.toNat=103):
  Calls prog 114 #[.pointer (some ⟨K.mb,0,none⟩),.pointer (some ⟨g,ds.length*4,none⟩),br x] w λen w'=>en= .returned (.tuple #[])/\jB K w0 g cap ds d.q s d.pc (bB d.zx) d.loc 6 w':=by
 have HP:=hid (λY (hY:B_ w Y)=>gv (h.new hY) hl h4);have a5:=h.cs.1;have HO:=hid (λ(Y:World) fv ds (hM:DmQ K w0 Y 0 12 hv fv fo s ds)=>CC hM x.a);rw[hv']at HP;clear h hv';unfold br;rw[ho];clear ho;simp only[dK,va,vd]at HP HO
 go_in
 go_wp2_with fail;refine(HP.out _ (ag _ _ _)).mono ?_;rintro en w1 ⟨rfl,a4,sv,hM⟩;have hi:=(a4.block w.heap.size (by simp) (by show¬w.heap.size=g;omega)).trans (aO w _);have i1:=aX w1 _ 1 _ _ (0,0) hi;simp at i1;have a6:=ae hi;have HM:=hid hM;clear HP a4 hi hM;go_wp2_with fail;have a2:=HM.out.new (ag (λ_=>False) w1 (.cells #[.int .u8 122,.int .i64 0] 135));refine(HO.out _ _ _ a2).mono ?_;rintro en w2 ⟨rfl,a1⟩;have hi:=(a1.block w1.heap.size (by simp) (λh=>h)).trans (aO w1 _);have j0:=aX w2 _ 0 _ _ (0,0) hi;simp at j0;have a7:=ae hi;have a0:=a2.new a1;have c9:=a0.mc.cs.2.2.2.2.2.2.2.2.2;have z9:=a0.mc.fz 9
 have a8:=a0.lt;have a3:=hid a0;clear HO HM a2 a1 hi a0;go_wp2_with fail;go_end0;exact⟨rfl,_,_,_,_,a3.out.own (val':=0) (e':=6) (s':=s) (au w2 K.mb 9 (.int .i64 6)) rfl (a3.out.mc.set9 6)⟩
theorem DT (h:DmQ K w0 w 0 12 hv (.slice (some ⟨g,0,none⟩) (ds.length+1) cap) fo s (ds++ [d])) (h4:d.zx.length<=4000) (hl:1<=d.zx.length) (hI:dX w0 K.bi im) (hw:WfC im.zz) {k:Nat} {ob:Ob} (hv':bE d.zx= .o k) (hk:s.heap[k]?=some ob) (hc:ob.cls<im.zz.length) (hu:bF im.zz 5 ob.cls x.a=true) (hj:x.b<ob.fs.length) (hh:s.heap.length<=4000) (ho:x.op.toNat=103):
  Calls prog 114 #[.pointer (some ⟨K.mb,0,none⟩),.pointer (some ⟨g,ds.length*4,none⟩),br x] w λen w'=>en= .returned (.tuple #[])/\jB K w0 g cap ds d.q s d.pc (bB d.zx++ [ob.fs.getD x.b .z]) d.loc 12 w':=by
 obtain⟨u,a5⟩: ∃u,ob.fs[x.b]?=some u:=⟨_,aH hj⟩;rw[show ob.fs.getD x.b .z=u from by rw[co,a5];rfl];have HP:=hid (λY (hY:B_ w Y)=>gv (h.new hY) hl h4);have b9:=h.cs.1;have b4:(bB d.zx).length<=4000:=by simp[bB];omega
 have HO:=hid (λ(Y:World) fv ds (hM:DmQ K w0 Y 0 12 hv fv fo s ds)=>CD hM hI hw hk hc hh x.a);rw[hu]at HO;rw[hv']at HP;clear h hv' hI hw hc hu;unfold br;rw[ho];clear ho;simp only[dK,ve,vg]at HP HO
 go_in
 go_wp2_with fail;refine(HP.out _ (ag _ _ _)).mono ?_;rintro en w1 ⟨rfl,a7,sv,hM⟩;have a4:=(a7.block w.heap.size (by simp) (by show¬w.heap.size=g;omega)).trans (aO w _);have i1:=aX w1 _ 1 _ _ (0,0) a4;simp at i1;have b1:=ae a4;have HM:=hid hM;clear HP a7 hM;go_wp2_with fail;have hA:=ag (λ_=>False) w1 (.cells #[.int .u8 111,.int .i64 k] 135);have a6:=HM.out.new hA;refine(HO.out _ _ _ a6).mono ?_;rintro en w2 ⟨rfl,a3⟩;have hi:=(a3.block w1.heap.size (by simp) (λh=>h)).trans (aO w1 _);have j0:=aX w2 _ 0 _ _ (0,0) hi;have j1:=aX w2 _ 1 _ _ (0,0) hi;have a1:=((hA.trans a3).block w.heap.size b1 (λh=>h)).trans a4
 have k2:=aX w2 _ 2 _ _ (0,0) a1;simp at j0 j1 k2;have b2:=ae hi;have b3:=ae a1;have a2:=a6.new a3;have c2:=a2.mc.cs.2.2.1;have b5:=a2.lt;obtain⟨gh,ch,vf,rfl,_,b0,_,q1,ho⟩:=a2.obj hk;obtain⟨af,cf,rfl⟩:=aw ho;obtain⟨gf,rfl,a8,b6,a0⟩:=aF ho (by omega);have f0:w2.cell? ⟨gf,x.b*2,none⟩=some (.int .u8 u.K):=a0 _ _ (bK (k:=0) a5 (by omega));have f1:w2.cell? ⟨gf,x.b*2+1,none⟩=some (.int .i64 u.N):=a0 _ _ (bK (k:=1) a5 (by omega));have c9:(k:Int)<(s.heap.length:Int):=by have:=(bC hk).1;omega
 have c7:(x.b:Int)<(ob.fs.length:Int):=by omega
 have HQ:=hid (λY (hY:B_ w2 Y)=>dT (a2.new hY) u b4);simp only[dK]at HQ;clear HO HM a6 a3 hi a1 a4 hA a0 ho a2 hk a5 hj;generalize s.heap.length=nh at*;generalize ob.fs.length=nf at*;generalize ds.length*4=o at*;go_wp2_with fail;refine aI (B_ w2) 14 ?_;have hS:B_ w2 w2.drew:=aD _ _
 iterate 14 (refine gL (v:=?_) rfl hS ?_ ?_;rotate_left;(focus (intro wS h;have Q0:=(h.kc c2 b5);have Q1:=(h.kc j1 b2);have Q2:=(h.kc q1 b0);have Q3:=(h.kc k2 b3);have Q4:=(h.kc f0 a8);have Q5:=(h.kc f1 a8);clear h;go_simp;try rfl));dsimp only[Act.put];try simp only[cH])
 refine az rfl ?_;intro KS hKS;go_simp;refine(HQ.out _ hS).mono ?_;rintro en w3 ⟨rfl,sv',hM⟩;refine hKS.out _ _ nofun ?_;clear hKS KS HQ;refine aR rfl ?_;go_wp2_with fail;go_end0;exact⟨rfl,_,_,_,_,hM⟩
theorem DU (h:DmQ K w0 w 0 12 hv (.slice (some ⟨g,0,none⟩) (ds.length+1) cap) fo s (ds++ [d])) (h4:d.zx.length<=4000) (hl:2<=d.zx.length) (hv':fk d.zx= .z) (ho:x.op.toNat=112):
  Calls prog 114 #[.pointer (some ⟨K.mb,0,none⟩),.pointer (some ⟨g,ds.length*4,none⟩),br x] w λen w'=>en= .returned (.tuple #[])/\jB K w0 g cap ds d.q s d.pc (dC d.zx) d.loc 6 w':=by
 have HP:=hid (λY (hY:B_ w Y)=>ky (h.new hY) h4 hl);have b0:=h.cs.1;have HO:=hid (λ(Y:World) fv ds (hM:DmQ K w0 Y 0 12 hv fv fo s ds)=>CC hM x.a);rw[hv']at HP;generalize bE d.zx=v at*;clear h hv';unfold br;rw[ho];clear ho;simp only[dK,va,vd]at HP HO
 go_in
 go_wp2_with fail;refine(HP.out _ (ag _ _ _)).mono ?_;rintro en w1 ⟨rfl,a2,a1⟩;replace a1:=hid a1;have a8:=a2.size;simp at a8;have a7:=(a2.block w.heap.size (by simp) (by show¬w.heap.size=g;omega)).trans (aO w _);clear HP a2;go_wp2_with fail;refine(a1.out _ (ag _ _ _)).mono ?_;rintro en w2 ⟨rfl,a6,sv,hM⟩;have hk:=(a6.block w.heap.size (by simp;omega) (by show¬w.heap.size=g;omega)).trans (((ag (λ_=>False) _ _).block w.heap.size (by omega) (λh=>h)).trans a7);have k1:=aX w2 _ 1 _ _ (0,0) hk;simp at k1;have b2:=ae hk;have HM:=hid hM;clear a1 a6 hM hk a7;go_wp2_with fail;have a4:=HM.out.new (ag (λ_=>False) w2 (.cells #[.int .u8 122,.int .i64 0] 135))
 refine(HO.out _ _ _ a4).mono ?_;rintro en w3 ⟨rfl,a3⟩;have hi:=(a3.block w2.heap.size (by simp) (λh=>h)).trans (aO w2 _);have j0:=aX w3 _ 0 _ _ (0,0) hi;simp at j0;have b1:=ae hi;have a0:=a4.new a3;have c9:=a0.mc.cs.2.2.2.2.2.2.2.2.2;have z9:=a0.mc.fz 9;have b3:=a0.lt;have a5:=hid a0;clear HO HM a4 a3 hi a0;go_wp2_with fail;go_end0;exact⟨rfl,_,_,_,_,a5.out.own (val':=0) (e':=6) (s':=s) (au w3 K.mb 9 (.int .i64 6)) rfl (a5.out.mc.set9 6)⟩
theorem DV (h:DmQ K w0 w 0 12 hv (.slice (some ⟨g,0,none⟩) (ds.length+1) cap) fo s (ds++ [d])) (h4:d.zx.length<=4000) (hl:2<=d.zx.length) (hI:dX w0 K.bi im) (hw:WfC im.zz) {k:Nat} {ob:Ob} (hv':fk d.zx= .o k) (hk:s.heap[k]?=some ob) (hc:ob.cls<im.zz.length) (hu:bF im.zz 5 ob.cls x.a=true) (hj:x.b<ob.fs.length) (hh:s.heap.length<=4000) (ho:x.op.toNat=112):
  Calls prog 114 #[.pointer (some ⟨K.mb,0,none⟩),.pointer (some ⟨g,ds.length*4,none⟩),br x] w λen w'=>en= .returned (.tuple #[])/\jB K w0 g cap ds d.q (s.put k x.b (bE d.zx)) d.pc (dC d.zx) d.loc 12 w':=by
 obtain⟨u,b2⟩: ∃u,ob.fs[x.b]?=some u:=⟨_,aH hj⟩;have HP:=hid (λY (hY:B_ w Y)=>ky (h.new hY) h4 hl);have e3:=h.cs.1;have HO:=hid (λ(Y:World) fv ds (hM:DmQ K w0 Y 0 12 hv fv fo s ds)=>CD hM hI hw hk hc hh x.a);rw[hu]at HO;rw[hv']at HP;generalize bE d.zx=v at*;clear h hv' hI hw hc hu;unfold br;rw[ho];clear ho;simp only[dK,ve,vg]at HP HO
 go_in
 go_wp2_with fail;refine(HP.out _ (ag _ _ _)).mono ?_;rintro en w1 ⟨rfl,a7,a5⟩;replace a5:=hid a5;have e0:=a7.size;simp at e0;have b5:=(a7.block w.heap.size (by simp) (by show¬w.heap.size=g;omega)).trans (aO w _);clear HP a7;go_wp2_with fail;refine(a5.out _ (ag _ _ _)).mono ?_;rintro en w2 ⟨rfl,a8,sv,hM⟩;have a6:=(a8.block w.heap.size (by simp;omega) (by show¬w.heap.size=g;omega)).trans (((ag (λ_=>False) _ _).block w.heap.size (by omega) (λh=>h)).trans b5);have b3:=(a8.block w1.heap.size (by simp) (by show¬w1.heap.size=g;omega)).trans (aO w1 _);have k1:=aX w2 _ 1 _ _ (0,0) a6;simp at k1;have c9:=ae a6
 have HM:=hid hM;clear a5 a8 hM b5;go_wp2_with fail;have hA:=ag (λ_=>False) w2 (.cells #[.int .u8 111,.int .i64 k] 135);have b0:=HM.out.new hA;refine(HO.out _ _ _ b0).mono ?_;rintro en w3 ⟨rfl,a3⟩;have hi:=(a3.block w2.heap.size (by simp) (λh=>h)).trans (aO w2 _);have j0:=aX w3 _ 0 _ _ (0,0) hi;have j1:=aX w3 _ 1 _ _ (0,0) hi;have a2:=((hA.trans a3).block w.heap.size c9 (λh=>h)).trans a6;have a1:=((hA.trans a3).block w1.heap.size (ae b3) (λh=>h)).trans b3;have k2:=aX w3 _ 2 _ _ (0,0) a2;have v0:=aX w3 _ 0 _ _ (0,0) a1;have v1:=aX w3 _ 1 _ _ (0,0) a1;simp at j0 j1 k2 v0 v1;have c7:=ae hi
 have b1:=ae a2;have b6:=ae a1;have a4:=b0.new a3;have c2:=a4.mc.cs.2.2.1;have d6:=a4.lt;obtain⟨gh,ch,vf,rfl,b4,b9,_,q1,ho⟩:=a4.obj hk;obtain⟨af,cf,rfl⟩:=aw ho;obtain⟨gf,rfl,e1,e2,a0⟩:=aF ho (by omega);have f0:w3.cell? ⟨gf,x.b*2,none⟩=some (.int .u8 u.K):=a0 _ _ (bK (k:=0) b2 (by omega));have f1:w3.cell? ⟨gf,x.b*2+1,none⟩=some (.int .i64 u.N):=a0 _ _ (bK (k:=1) b2 (by omega));have z0:=gU ho (x.b*2);have z1:=gU ho (x.b*2+1);have e5:(k:Int)<(s.heap.length:Int):=by have:=(bC hk).1;omega
 have e4:(x.b:Int)<(ob.fs.length:Int):=by omega
 have HQ:=hid (a4.setF hk b4 (g:=gf) rfl x.b v);clear HO HM b0 a3 hi a2 a6 b3 a1 hA a0 ho a4 hk b2 hj b4 k1;generalize s.heap.length=nh at*;generalize ob.fs.length=nf at*;generalize ds.length*4=o at*;go_wp2_with fail;refine aI (B_ w3) 13 ?_;have hS:B_ w3 w3.drew:=aD _ _
 iterate 13 (refine aQ (v:=?_) rfl hS ?_ ?_;rotate_left;(focus (intro wS h;have Q0:=(h.kc c2 d6);have Q1:=(h.kc j1 c7);have Q2:=(h.kc q1 b9);have Q3:=(h.kc k2 b1);have Q4:=(h.kc v0 b6);have Q5:=(h.kc v1 b6);clear h;go_simp;try rfl));dsimp only[Act.put];try simp only[cH])
 refine iC rfl ?_;go_wp2_with fail;go_end0;exact⟨rfl,_,_,_,_,HQ.out.new (aD _ _)⟩
end
def dD (l:List Nat):List Value:=l.map λk:Nat=>Value.int .i64 (k:Int)
theorem CF:(prog.info? 3).map (λi=>(i.zero,i.size,i.bytes))=some (some (.int .i64 0),1,8):=by kernel_rfl
theorem eI {ops:Array Oper} {rest:List Oper} {o:Oper} {a:Act} {Q:Exit->Act->World->Prop} (hgd:o.guard=none) (s x:Operand)
  (ho:o.op= .call {callee:= .builtin .append,args:=#[s,x],argTypes:=#[217,217]})
  (W:World) (base:Nat) (v:Value) (l:List Nat) (u:Nat) (hs:a.eval s=v) (H:Nat) (hH:W.heap.size=H) (hx:a.eval x= .slice (some ⟨H,0,none⟩) 1 1) (hown:W.ownsRow base 3 1 v l.length (dD l)) (hl:l.length<=500000) (hbase:base<=W.heap.size)
  (h: ∀g cap w',w'.ownsRow base 3 1 (.slice (some ⟨g,0,none⟩) (l++ [u]).length cap) (l++ [u]).length (dD (l++ [u]))->But (λk=>v.ownBlock=some k) W w'->(v.ownBlock=some g\/W.heap.size<=g)->wpList prog ops Q rest (a.put o.dst (.slice (some ⟨g,0,none⟩) (l.length+1) cap)) w'):
  wpList prog ops Q (o::rest) a (W.alloc (.cells #[.int .i64 u] 3)):=by
 obtain⟨i0,a0,a1,a2,a3⟩:=info_parts CF;subst hH
 refine wpList_append_lies _ hgd s x _ ho base 3 i0 _ 1 8 (by kernel_rfl) a0 a1 a2 a3 rfl (by omega) v l.length (dD l) hs (aj hown (ag (λ_=>False) _ _) (λ_ _ h=>h)) ⟨W.heap.size,0,none⟩ 1 1 [.int .i64 u] hx rfl
  (fX (cs:=#[.int .i64 u]) (t:=3) (fr:=(0,0)) (aO W _)) (by simp[Value.oneCell']) (by omega) (by unfold maxLen;omega) (by omega) (by simp;omega) (W.heap.size+1) (by simp) ?_
 intro g cap w' h1 h2 h3 h4;refine h g cap w' ?_ ((ag _ _ _).trans (bc h2)) ?_
 .rw[show dD (l++ [u])=dD l++ [.int .i64 u]from by simp[dD],aZ];exact h1
 .obtain h3|h3:=h3
  .exact Or.inl h3
  .right;omega
def cM (vs:List V):List Nat:=vs.filterMap λv=>match v with
 | .o k=>some k
 |_=>none
theorem vh (a b:List V):cM (a++b)=cM a++cM b:=by simp[cM]
theorem Bv (a:List V) (k:Nat):k∈cM a↔V.o k∈a:=by
 simp only[cM,List.mem_filterMap];refine⟨λ⟨v,h1,h2⟩=> ?_,λh=>⟨_,h,rfl⟩⟩
 cases v<;>simp at h2
 subst h2;exact h1
theorem nC (a:List V):(cM a).length<=a.length:=List.length_filterMap_le _ _
section
variable {K:Dk} {w0 w w':World} {val e:Int} {hv fv:Value} {fo:List Value} {s:Ev} {ds:List Fd} {base:Nat} {L:List (Nat×List St)} {q pc:Nat} {p:Nat×List St} {st lo:L_}
theorem Bw {pc:Int} {sv lv:Value} {zx loc:List V} (b4:Hid (∀(a1 a2:Option Addr) (c1 c2:Nat) Y,B_ w Y->Calls prog 242 #[.pointer (some ⟨K.mb,0,none⟩),.agg #[.int .i64 q,.int .i64 pc,.slice a1 zx.length c1,.slice a2 loc.length c2]] Y λen w'=>en= .returned (.agg #[.bool true,.string ⟨st.toArray⟩,.string ⟨lo.toArray⟩])/\B_ Y w')) (h1:w.ownsRow w0.heap.size 135 2 sv zx.length (aV zx)) (h2:w.ownsRow w0.heap.size 135 2 lv loc.length (aV loc)) (h4:zx.length<=4000) (h5:loc.length<=4000):
  Calls prog 225 #[.pointer (some ⟨K.mb,0,none⟩),.agg #[.int .i64 q,.int .i64 pc,sv,lv]] w λen w'=>B_ w w'/\ ∃v,en= .returned v/\w'.ownsRow w.heap.size 3 1 v (cM (fB zx st++fB loc lo)).length (dD (cM (fB zx st++fB loc lo))):=by
 obtain⟨a1,c1,rfl⟩:=aw h1;obtain⟨a2,c2,rfl⟩:=aw h2;replace b4:=hid (b4.out a1 a2 c1 c2);obtain⟨zs,c9⟩: ∃zs,zx.zip st=zs:=⟨_,rfl⟩;obtain⟨ys,c7⟩: ∃ys,loc.zip lo=ys:=⟨_,rfl⟩;have hn:zs.length=min zx.length st.length:=by rw[<-c9];simp
 have hm:ys.length=min loc.length lo.length:=by rw[<-c7];simp
 have HU:Hid (fB zx st=(zs.filter qh).map (·.1)/\fB loc lo=(ys.filter qh).map (·.1)):=by show _/\_;rw[<-c9,<-c7];exact⟨rfl,rfl⟩
 have HZ:Hid (∀k u y,zx[k]?=some u->st[k]?=some y->zs[k]?=some (u,y)):=λk u y a b=>by rw[<-c9,List.getElem?_zip_eq_some];exact⟨a,b⟩
 have HY:Hid (∀k u y,loc[k]?=some u->lo[k]?=some y->ys[k]?=some (u,y)):=λk u y a b=>by rw[<-c7,List.getElem?_zip_eq_some];exact⟨a,b⟩
 rw[HU.out.1,HU.out.2];obtain⟨RS,e3⟩: ∃RS,cM ((zs.filter qh).map (·.1)++(ys.filter qh).map (·.1))=RS:=⟨_,rfl⟩;rw[e3];have HR:=hid e3;clear e3 HU c9 c7
 go_in
 go_wp2_with fail;refine(b4.out _ (ag _ _ _)).mono ?_;rintro en w1 ⟨rfl,d6⟩;have f0:=(d6.block w.heap.size (by simp) (λh=>h)).trans (aO w _);have f7:B_ w w1:=(ag _ _ _).trans d6;clear b4 d6;go_wp2_with fail;obtain⟨X,hX⟩: ∃X,w1.alloc (.cells #[.bool true,.string ⟨st.toArray⟩,.string ⟨lo.toArray⟩] 91)=X:=⟨_,rfl⟩;have e0:B_ w1 X:=by rw[<-hX];exact ag _ _ _
 have b6:X.heap[w1.heap.size]?=some (.cells #[.bool true,.string ⟨st.toArray⟩,.string ⟨lo.toArray⟩] 91):=by rw[<-hX];exact aO _ _
 have b5:=e0.kp f0;rw[hX];clear hX f0;have b9:=f7.trans e0;replace h1:=aj h1 b9 (λ_ _ h=>h);replace h2:=aj h2 b9 (λ_ _ h=>h);have h0:=b9.size;have F2:=aX X _ 2 _ _ (0,0) b5;have F3:=aX X _ 3 _ _ (0,0) b5;have S1:=aX X _ 1 _ _ (0,0) b6;have S2:=aX X _ 2 _ _ (0,0) b6;simp at F2 F3 S1 S2;have e9:=ae b5;have f5:=ae b6;clear b5 b6 f7 e0;generalize g6:w.heap.size=fb at*;generalize w1.heap.size=sb at*
 go_loopg [5,7] zs.length (λmm vt is wr=> ∃(ao:Option Addr) (cap k:Nat) (t:List V),vt= .slice ao (cM t).length cap/\is= .int .i64 k/\k<=zs.length/\k+mm<=zs.length/\zs.length<=k+mm/\B_ X wr/\wr.ownsRow X.heap.size 3 1 (.slice ao (cM t).length cap) (cM t).length (dD (cM t))/\t.length<=k/\Hid (((zs.take k).filter qh).map (·.1)=t))
 case atStart=>exact⟨none,0,0,[],rfl,rfl,by omega,by omega,by omega,But.refl _ _,df _ _ _ _,by simp,rfl⟩
 case round=>
  obtain⟨ao,cap,k,t,rfl,rfl,f1,e5,f4,a3,a4,f6,HA⟩:=hrel;clear e5;have f2:=a3.kc F2 e9;have s1:=a3.kc S1 f5;have f8:=a3.size;have e6:=nC t
  by_cases hlt:k<zs.length
  .have b3:k<zx.length:=by omega
   have a8:k<st.length:=by omega
   have e1:(k:Int)<(zx.length:Int):=by omega
   have e2:(k:Int)<(st.length:Int):=by omega
   obtain⟨u,hu⟩: ∃u,zx[k]?=some u:=⟨_,aH b3⟩;obtain⟨y,hy⟩: ∃y,st[k]=y:=⟨_,rfl⟩;have kC: ∀h,(⟨st.toArray⟩:ByteArray)[k]'h=y:=λh=>by rw[<-hy];exact yi st _ a8 _
   have g4:k<(⟨st.toArray⟩:ByteArray).size:=a8;obtain⟨g1,r1,g3,_,a0⟩:=aF (aj h1 a3 (λ_ _ h=>h)) (by omega);subst r1;have q0:wr.cell? ⟨g1,k*2,none⟩=some (.int .u8 u.K):=a0 _ _ (bK (k:=0) hu (by omega));have q1:wr.cell? ⟨g1,k*2+1,none⟩=some (.int .i64 u.N):=a0 _ _ (bK (k:=1) hu (by omega));have a5:=hid (u3 (HZ.out k u y hu (by rw[aH a8,hy])) HA.out);have g5:=er ((k:Int)+1) (by omega) (by omega);clear a0 hu hy HA b3 a8
   by_cases hyy:y.toNat=45
   .have b1:((y.toNat:Int)!=45)=false:=by simp[hyy]
    rw[if_pos hyy]at a5;clear hyy;go_wp2_with fail
    go_roundg (zs.length-(k+1))
    case measure=>omega
    case rel=>exact⟨_,cap,k+1,t,rfl,by simp,by omega,by omega,by omega,a3,a4,by omega,a5⟩
   .have b1:((y.toNat:Int)!=45)=true:=by rw[bne_iff_ne];omega
    rw[if_neg hyy]at a5;clear hyy
    cases u with
    |o j=>
     simp only[ve,vg]at q0 q1;have HO:Hid (cM (t++ [.o j])=cM t++ [j]):=by show _=_;simp[cM]
     go_wp2_with (at_builtin;refine eI rfl _ _ rfl wr X.heap.size (.slice ao (cM t).length cap) (cM t) j rfl wr.heap.size rfl rfl (by exact a4) (by omega) (by omega) ?_);intro gg cap3 w2 a6 b2 e4;have b0:B_ X w2:=a3.next b2 (λk' hk' h=>by have:=ay a4 k' h;omega);clear b2 e4;go_wp2_with fail
     go_roundg (zs.length-(k+1))
     case measure=>omega
     case rel=>exact⟨some ⟨gg,0,none⟩,cap3,k+1,t++ [.o j],by rw[HO.out,aZ];rfl,by simp,by omega,by omega,by omega,b0,by rw[HO.out,aZ];exact a6,by simp;omega,a5⟩
    |i n=>
     simp only[nA,nB]at q0 q1;have HO:Hid (cM (t++ [.i n])=cM t):=by show _=_;simp[cM]
     go_wp2_with fail
     go_roundg (zs.length-(k+1))
     case measure=>omega
     case rel=>exact⟨_,cap,k+1,t++ [.i n],by rw[HO.out],by simp,by omega,by omega,by omega,a3,by rw[HO.out];exact a4,by simp;omega,a5⟩
    |z=>
     simp only[va,vd]at q0 q1;have HO:Hid (cM (t++ [.z])=cM t):=by show _=_;simp[cM]
     go_wp2_with fail
     go_roundg (zs.length-(k+1))
     case measure=>omega
     case rel=>exact⟨_,cap,k+1,t++ [.z],by rw[HO.out],by simp,by omega,by omega,by omega,a3,by rw[HO.out];exact a4,by simp;omega,a5⟩
  .have a7:(zs.filter qh).map (·.1)=t:=by rw[<-HA.out,List.take_of_length_le (by omega)]
   have g2:=hid a7;clear a7 HA;have hx: ¬(k:Int)<(zx.length:Int)\/((k:Int)<(zx.length:Int)/\ ¬(k:Int)<(st.length:Int)):=by omega
   have e7:=a3;have e8:=a4;have g7:t.length<=4000:=by omega
   generalize t=t0 at*;generalize cap=cap0 at*;obtain e1| ⟨e1,e2⟩:=hx
   all_goals
    go_wp2_with fail
    go_loopg [5,8] ys.length (λmm vt is wr=> ∃(ao:Option Addr) (cap k:Nat) (t:List V),vt= .slice ao (cM (t0++t)).length cap/\is= .int .i64 k/\k<=ys.length/\k+mm<=ys.length/\ys.length<=k+mm/\B_ X wr/\wr.ownsRow X.heap.size 3 1 (.slice ao (cM (t0++t)).length cap) (cM (t0++t)).length (dD (cM (t0++t)))/\t.length<=k/\Hid (((ys.take k).filter qh).map (·.1)=t))
    case atStart=>exact⟨ao,cap0,0,[],by simp,rfl,by omega,by omega,by omega,e7,by simpa using e8,by simp,rfl⟩
    case round=>
     clear a3 a4 e7 e8 f2 s1 f8 e6 f6 f1 f4 e1;obtain⟨ao,cap,k,t,rfl,rfl,f1,e5,f4,a3,a4,f6,HA⟩:=hrel;clear e5;have f3:=a3.kc F3 e9;have s2:=a3.kc S2 f5;have f8:=a3.size;have e6:=nC (t0++t);rw[aZ]at e6
     by_cases hlt:k<ys.length
     .have b3:k<loc.length:=by omega
      have a8:k<lo.length:=by omega
      have e1:(k:Int)<(loc.length:Int):=by omega
      have e2:(k:Int)<(lo.length:Int):=by omega
      obtain⟨u,hu⟩: ∃u,loc[k]?=some u:=⟨_,aH b3⟩;obtain⟨y,hy⟩: ∃y,lo[k]=y:=⟨_,rfl⟩;have kC: ∀h,(⟨lo.toArray⟩:ByteArray)[k]'h=y:=λh=>by rw[<-hy];exact yi lo _ a8 _
      have g4:k<(⟨lo.toArray⟩:ByteArray).size:=a8;obtain⟨g1,r1,g3,_,a0⟩:=aF (aj h2 a3 (λ_ _ h=>h)) (by omega);subst r1;have q0:wr.cell? ⟨g1,k*2,none⟩=some (.int .u8 u.K):=a0 _ _ (bK (k:=0) hu (by omega));have q1:wr.cell? ⟨g1,k*2+1,none⟩=some (.int .i64 u.N):=a0 _ _ (bK (k:=1) hu (by omega));have a5:=hid (u3 (HY.out k u y hu (by rw[aH a8,hy])) HA.out);have g5:=er ((k:Int)+1) (by omega) (by omega);clear a0 hu hy HA b3 a8
      by_cases hyy:y.toNat=45
      .have b1:((y.toNat:Int)!=45)=false:=by simp[hyy]
       rw[if_pos hyy]at a5;clear hyy;go_wp2_with fail
       go_roundg (ys.length-(k+1))
       case measure=>omega
       case rel=>exact⟨_,cap,k+1,t,rfl,by simp,by omega,by omega,by omega,a3,a4,by omega,a5⟩
      .have b1:((y.toNat:Int)!=45)=true:=by rw[bne_iff_ne];omega
       rw[if_neg hyy]at a5;clear hyy
       cases u with
       |o j=>
        simp only[ve,vg]at q0 q1;have HO:Hid (cM (t0++(t++ [.o j]))=cM (t0++t)++ [j]):=by show _=_;simp[cM]
        go_wp2_with (at_builtin;refine eI rfl _ _ rfl wr X.heap.size (.slice ao (cM (t0++t)).length cap) (cM (t0++t)) j rfl wr.heap.size rfl rfl (by exact a4) (by omega) (by omega) ?_);intro gg cap3 w2 a6 b2 e4;have b0:B_ X w2:=a3.next b2 (λk' hk' h=>by have:=ay a4 k' h;omega);clear b2 e4;go_wp2_with fail
        go_roundg (ys.length-(k+1))
        case measure=>omega
        case rel=>exact⟨some ⟨gg,0,none⟩,cap3,k+1,t++ [.o j],by rw[HO.out,aZ];rfl,by simp,by omega,by omega,by omega,b0,by rw[HO.out,aZ];exact a6,by simp;omega,a5⟩
       |i n=>
        simp only[nA,nB]at q0 q1;have HO:Hid (cM (t0++(t++ [.i n]))=cM (t0++t)):=by show _=_;simp[cM]
        go_wp2_with fail
        go_roundg (ys.length-(k+1))
        case measure=>omega
        case rel=>exact⟨_,cap,k+1,t++ [.i n],by rw[HO.out],by simp,by omega,by omega,by omega,a3,by rw[HO.out];exact a4,by simp;omega,a5⟩
       |z=>
        simp only[va,vd]at q0 q1;have HO:Hid (cM (t0++(t++ [.z]))=cM (t0++t)):=by show _=_;simp[cM]
        go_wp2_with fail
        go_roundg (ys.length-(k+1))
        case measure=>omega
        case rel=>exact⟨_,cap,k+1,t++ [.z],by rw[HO.out],by simp,by omega,by omega,by omega,a3,by rw[HO.out];exact a4,by simp;omega,a5⟩
     .have a7:RS=cM (t0++t):=by rw[<-HR.out,g2.out,<-HA.out,List.take_of_length_le (by omega)]
      have g0:=hid a7;clear a7 HA;have hx: ¬(k:Int)<(loc.length:Int)\/((k:Int)<(loc.length:Int)/\ ¬(k:Int)<(lo.length:Int)):=by omega
      obtain e1| ⟨e1,e2⟩:=hx
      all_goals
       go_wp2_with fail;exact du (.slice ao (cM (t0++t)).length cap) results225 rfl rfl ⟨b9.trans a3,_,rfl,by rw[g0.out];exact iI a4 (by omega)⟩
end
end
end Go.Proofs.YtpfkkmacakjmbaaGreatDoor
