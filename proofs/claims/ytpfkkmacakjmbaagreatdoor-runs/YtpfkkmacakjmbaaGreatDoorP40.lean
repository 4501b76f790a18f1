import Derived.Test.YtpfkkmacakjmbaaGreatDoorP39
import Derived.Test.YtpfkkmacakjmbaaGreatDoorP01
set_option maxRecDepth 100000
set_option maxHeartbeats 6400000
set_option linter.unusedSimpArgs false
set_option linter.unusedVariables false
namespace Go.Proofs.YtpfkkmacakjmbaaGreatDoor
section
open Go Go.RowKit Sp
attribute [local go_sem ↓] Go.wp_at_zero Go.wp_at_succ
theorem yx {stk:List V} (hl:2≤stk.length):1≤(ba stk).length∧(ba stk).length≤stk.length∧aX (ba stk)=dP stk∧ba (ba stk)=cH stk:=by
 have e:(ba stk).length=stk.length-1:=by simp[ba]
 refine⟨by omega,by omega,?_,?_⟩
 ·unfold aX dP;rw[e];simp only[ba,List.getD_eq_getElem?_getD];rw[List.getElem?_take_of_lt (by omega)]
  rfl
 ·rw[show ba (ba stk)=(ba stk).take ((ba stk).length-1)from rfl,e];simp only[ba,cH,List.take_take]
  congr 1
  omega
section
variable {K:Dk} {w0 w w':World} {hv:Value} {fo:List Value} {s:Ev} {ds:List Fd} {d:Fd} {g cap:Nat} {x:Ins}
theorem jc (h:DmQ K w0 w 0 12 hv (.slice (some ⟨g,0,none⟩) (ds.length+1) cap) fo s (ds++ [d])) (h4:d.stk.length≤4000) (hl:2≤d.stk.length):
  Calls Tryz.prog 175 #[.pointer (some ⟨g,ds.length*4,none⟩)] w fun en w'=>en= .returned (.agg #[.int .u8 (aX d.stk).K,.int .i64 (aX d.stk).N])∧But (· =g) w w'∧ ∀Y,But (fun _=>False) w' Y→Calls Tryz.prog 175 #[.pointer (some ⟨g,ds.length*4,none⟩)] Y fun en w''=>en= .returned (.agg #[.int .u8 (dP d.stk).K,.int .i64 (dP d.stk).N])∧But (· =g) Y w''∧ ∃sv,DmQ K w0 w'' 0 12 hv (.slice (some ⟨g,0,none⟩) (ds.length+1) cap) fo s (ds++ [⟨d.q,d.pc,cH d.stk,d.loc,sv,d.lv⟩]):=by
 obtain⟨t1,t2,t3,t4⟩:=yx hl;refine(e9 h (by omega) h4).mono ?_;rintro en w1 ⟨rfl,a0,sv,hM⟩;refine⟨rfl,a0,fun Y hY=> ?_⟩;have:=e9 (hM.new hY) t1 (by simp only;omega);simp only[t3,t4]at this;exact this
theorem AS (h:DmQ K w0 w 0 12 hv (.slice (some ⟨g,0,none⟩) (ds.length+1) cap) fo s (ds++ [d])) (h4:d.stk.length≤4000) (hl:2≤d.stk.length) (ho:x.op.toNat=101):
  Calls Tryz.prog 115 #[.pointer (some ⟨K.mb,0,none⟩),.pointer (some ⟨g,ds.length*4,none⟩),aY x] w fun en w'=>en= .returned (.tuple #[])∧iy K w0 g cap ds d.q s d.pc (cH d.stk++ [if dP d.stk=aX d.stk then .i 1 else .i 0]) d.loc 12 w':=by
 have HP:=hid (fun Y (hY:But (fun _=>False) w Y)=>jc (h.new hY) h4 hl);have b2:=h.cs.1;have a8:(cH d.stk).length≤4000:=by simp[cH];omega
 clear h;unfold aY;rw[ho];clear ho;generalize aX d.stk=v at*;generalize dP d.stk=u at*;obtain⟨bb,a2⟩: ∃bb:Bool,(u.K=v.K∧u.N=v.N↔bb=true):=⟨decide (u.K=v.K∧u.N=v.N),by simp⟩
 have hr:(if u=v then V.i 1 else V.i 0)=if bb=true then .i 1 else .i 0:=by
  by_cases e:u=v
  ·subst e;rw[if_pos rfl,if_pos (a2.1 ⟨rfl,rfl⟩)]
  ·rw[if_neg e,if_neg (fun hb=>e ?_)];obtain⟨h1,h2⟩:=a2.2 hb
   cases u<;>cases v<;>simp[V.K,V.N]at h1 h2⊢ <;>omega
 rw[hr];generalize a7:(if bb=true then V.i 1 else V.i 0)=rv;have a4:=hid a7;have a3:=hid a2;clear hr a2 a7
 go_in
 go_wp2_with fail;refine(HP.out _ (But.alloc _ _ _)).mono ?_;rintro en w1 ⟨rfl,a5,a1⟩;replace a1:=hid a1;have b1:=a5.size;simp at b1;have a9: ¬w1.heap.size=g:=by omega
 clear HP a5;go_wp2_with fail;refine(a1.out _ (But.alloc _ _ _)).mono ?_;rintro en w2 ⟨rfl,a6,sv,hM⟩;have hi:=(a6.block w1.heap.size (by simp) a9).trans (heap_alloc_new w1 _);have i0:=ce0 hi;have i1:=ce1 hi;have b3:=ae hi;have HQ:=hid (fun Y (hY:But (fun _=>False) w2 Y)=>df (hM.new hY) rv a8);clear a1 a6 hi hM;simp only[cU]at HQ;have b0:(u.K=v.K∧u.N=v.N)∨ ¬u.K=v.K∨(u.K=v.K∧ ¬u.N=v.N):=by omega
 rcases b0 with⟨e1,e2⟩ |e1| ⟨e1,e2⟩
 ·have HV:Hid (rv= .i 1):=by show _=_;rw[←a4.out,if_pos (a3.out.1 ⟨e1,e2⟩)]
  rw[HV.out]at HQ;simp only[li,lj]at HQ;go_wp2_with fail;refine(lO true _).mono ?_;rintro en w3 ⟨rfl,a0⟩;simp only[cU,if_true,if_false,Bool.false_eq_true,li,lj];go_wp2_with fail;refine(HQ.out _ (((But.alloc _ _ _).trans a0).trans (But.alloc _ _ _))).mono ?_;rintro en w4 ⟨rfl,sv',hM⟩;clear HQ a0;go_wp2_with fail;go_end0;rw[HV.out];exact⟨rfl,_,_,_,_,hM⟩
 ·have HV:Hid (rv= .i 0):=by show _=_;rw[←a4.out,if_neg (fun h=>e1 (a3.out.2 h).1)]
  rw[HV.out]at HQ;simp only[li,lj]at HQ;go_wp2_with fail;refine(lO false _).mono ?_;rintro en w3 ⟨rfl,a0⟩;simp only[cU,if_true,if_false,Bool.false_eq_true,li,lj];go_wp2_with fail;refine(HQ.out _ (((But.alloc _ _ _).trans a0).trans (But.alloc _ _ _))).mono ?_;rintro en w4 ⟨rfl,sv',hM⟩;clear HQ a0;go_wp2_with fail;go_end0;rw[HV.out];exact⟨rfl,_,_,_,_,hM⟩
 ·have HV:Hid (rv= .i 0):=by show _=_;rw[←a4.out,if_neg (fun h=>e2 (a3.out.2 h).2)]
  rw[HV.out]at HQ;simp only[li,lj]at HQ;go_wp2_with fail;refine(lO false _).mono ?_;rintro en w3 ⟨rfl,a0⟩;simp only[cU,if_true,if_false,Bool.false_eq_true,li,lj];go_wp2_with fail;refine(HQ.out _ (((But.alloc _ _ _).trans a0).trans (But.alloc _ _ _))).mono ?_;rintro en w4 ⟨rfl,sv',hM⟩;clear HQ a0;go_wp2_with fail;go_end0;rw[HV.out];exact⟨rfl,_,_,_,_,hM⟩
theorem AT (h:DmQ K w0 w 0 12 hv (.slice (some ⟨g,0,none⟩) (ds.length+1) cap) fo s (ds++ [d])) (h4:d.stk.length≤4000) (hl:2≤d.stk.length) {a b:Int} (ha:dP d.stk= .i a) (hb:aX d.stk= .i b) (a1: -2147483648≤a) (a2:a<2147483648) (b1: -2147483648≤b) (b2:b<2147483648) (hop:x.op.toNat=43∨x.op.toNat=45∨x.op.toNat=42∨x.op.toNat=60∨x.op.toNat=61):
  Calls Tryz.prog 115 #[.pointer (some ⟨K.mb,0,none⟩),.pointer (some ⟨g,ds.length*4,none⟩),aY x] w fun en w'=>en= .returned (.tuple #[])∧iy K w0 g cap ds d.q s d.pc (cH d.stk++ [.i (mw x.op.toNat a b)]) d.loc 12 w':=by
 have HP:=hid (fun Y (hY:But (fun _=>False) w Y)=>jc (h.new hY) h4 hl);have b0:=h.cs.1;have a7:(cH d.stk).length≤4000:=by simp[cH];omega
 have HA:=hid (fun w=>yl x.op.toNat hop a b a1 a2 b1 b2 w);rw[ha,hb]at HP;simp only[li,lj]at HP;clear h ha hb a1 a2 b1 b2;unfold aY;generalize x.op.toNat=op at*;generalize mw op a b=r at*;rcases hop with rfl|rfl|rfl|rfl|rfl
 all_goals
  go_in
  go_wp2_with fail;refine(HP.out _ (But.alloc _ _ _)).mono ?_;rintro en w1 ⟨rfl,a3,a0⟩;replace a0:=hid a0;have a9:=a3.size;simp at a9;have a8: ¬w1.heap.size=g:=by omega
  have a5:=(a3.block w.heap.size (by simp) (by show¬w.heap.size=g;omega)).trans (heap_alloc_new w _);clear HP a3;go_wp2_with fail;refine(a0.out _ (But.alloc _ _ _)).mono ?_;rintro en w2 ⟨rfl,a4,sv,hM⟩;have hi:=(a4.block w1.heap.size (by simp) a8).trans (heap_alloc_new w1 _);have i1:=ce1 hi;have b3:=ae hi;have hk:=(a4.block w.heap.size (by simp;omega) (by show¬w.heap.size=g;omega)).trans (((But.alloc (fun _=>False) _ _).block w.heap.size (by omega) (fun h=>h)).trans a5);have k0:=cell_of_row w2 _ 0 _ _ (0,0) hk;simp at k0;have b4:=ae hk;have HQ:=hid (fun Y (hY:But (fun _=>False) w2 Y)=>df (hM.new hY) (.i r) a7)
  clear a0 a4 hi hM hk a5;simp only[cU,li,lj]at HQ;go_wp2_with fail;refine(HA.out _).mono ?_;rintro en wx ⟨rfl,a6⟩;rw[a6];clear a6 wx;go_wp2_with fail;refine(HQ.out _ (But.alloc _ _ _)).mono ?_;rintro en w4 ⟨rfl,sv',hM⟩;clear HQ;go_wp2_with fail;go_end0;exact⟨rfl,_,_,_,_,hM⟩
theorem AU (h:DmQ K w0 w 0 12 hv (.slice (some ⟨g,0,none⟩) (ds.length+1) cap) fo s (ds++ [d])) (h4:d.stk.length≤4000) (hl:2≤d.stk.length) {a b:Int} (ha:dP d.stk= .i a) (hb:aX d.stk= .i b) (a1: -2147483648≤a) (a2:a<2147483648) (b1: -2147483648≤b) (b2:b<2147483648) (ho:x.op.toNat=47):
  Calls Tryz.prog 115 #[.pointer (some ⟨K.mb,0,none⟩),.pointer (some ⟨g,ds.length*4,none⟩),aY x] w fun en w'=>en= .returned (.tuple #[])∧((b=0∧iy K w0 g cap ds d.q s d.pc (cH d.stk) d.loc 7 w')∨(b≠0∧iy K w0 g cap ds d.q s d.pc (cH d.stk++ [.i (w32 (Int.tdiv a b))]) d.loc 12 w')):=by
 have HP:=hid (fun Y (hY:But (fun _=>False) w Y)=>jc (h.new hY) h4 hl);have b5:=h.cs.1;have a8:(cH d.stk).length≤4000:=by simp[cH];omega
 rw[ha,hb]at HP;simp only[li,lj]at HP;obtain⟨q,hq⟩: ∃q,Int.tdiv a b=q:=⟨_,rfl⟩;have b3:q.natAbs≤a.natAbs:=by rw[←hq,Int.natAbs_tdiv];exact Nat.div_le_self _ _
 rw[hq];have e2:wrap64 q=q:=IntWalk.wrap64_in q ⟨by omega,by omega⟩;have HW:=hid (fun w=>iG q (by omega) (by omega) w);clear h ha hb b1 b2 b3;unfold aY;rw[ho];clear ho;generalize a5:w32 q=r at*;clear a5
 go_in
 go_wp2_with fail;refine(HP.out _ (But.alloc _ _ _)).mono ?_;rintro en w1 ⟨rfl,a3,a0⟩;replace a0:=hid a0;have b4:=a3.size;simp at b4;have a9: ¬w1.heap.size=g:=by omega
 have a6:=(a3.block w.heap.size (by simp) (by show¬w.heap.size=g;omega)).trans (heap_alloc_new w _);clear HP a3;go_wp2_with fail;refine(a0.out _ (But.alloc _ _ _)).mono ?_;rintro en w2 ⟨rfl,a4,sv,hM⟩;have hi:=(a4.block w1.heap.size (by simp) a9).trans (heap_alloc_new w1 _);have i1:=ce1 hi;have b9:=ae hi;have hk:=(a4.block w.heap.size (by simp;omega) (by show¬w.heap.size=g;omega)).trans (((But.alloc (fun _=>False) _ _).block w.heap.size (by omega) (fun h=>h)).trans a6);have k0:=cell_of_row w2 _ 0 _ _ (0,0) hk;simp at k0;have e0:=ae hk;have HQ:=hid (fun Y (hY:But (fun _=>False) w2 Y)=>df (hM.new hY) (.i r) a8)
 have e1:=hM.lt;have c9:=hM.mc.cs.2.2.2.2.2.2.2.2.2;have z9:=hM.mc.fz 9;have HM:=hid hM;clear a0 a4 hi hM hk a6;simp only[cU,li,lj]at HQ
 by_cases h0:b=0
 ·have b0:(b==0)=true:=by simp[h0]
  have H0:=hid h0;clear h0;go_wp2_with fail;go_end0;exact⟨rfl,Or.inl ⟨H0.out,_,_,_,_,(HM.out.own (val':=0) (e':=7) (s':=s) (But.setB _ K.mb 9 (.int .i64 7)) rfl (HM.out.mc.set9 7)).new (But.alloc _ _ _)⟩⟩
 ·have b0:(b==0)=false:=by simp[h0]
  have H0:=hid h0;clear h0;go_wp2_with fail;refine(HW.out _).mono ?_;rintro en wx ⟨rfl,a7⟩;rw[a7];clear a7 wx;go_wp2_with fail;refine(HQ.out _ (But.alloc _ _ _)).mono ?_;rintro en w4 ⟨rfl,sv',hM⟩;clear HQ;go_wp2_with fail;go_end0;exact⟨rfl,Or.inr ⟨H0.out,_,_,_,_,hM⟩⟩
theorem zX (h:DmQ K w0 w 0 12 hv (.slice (some ⟨g,0,none⟩) (ds.length+1) cap) fo s (ds++ [d])) (hx:x.b<100) (ho:x.op.toNat=106):
  Calls Tryz.prog 113 #[.pointer (some ⟨K.mb,0,none⟩),.pointer (some ⟨g,ds.length*4,none⟩),aY x] w fun en w'=>en= .returned (.tuple #[])∧iy K w0 g cap ds d.q s ((x.b:Int)-1) d.stk d.loc 12 w':=by
 obtain⟨a1,_,_,_,c1,_,_,fz⟩:=h.cs;have f1:=fz (ds.length*4+1);have a0:=hid (h.pc ((x.b:Int)-1));have a2:=bH ((x.b:Int)-1) (by omega) (by omega);clear fz h;unfold aY;rw[ho];clear ho;generalize ds.length*4=o at*
 go_in
 go_wp2_with fail;go_end0;exact⟨rfl,_,_,_,_,a0.out.new (But.alloc _ _ _)⟩
theorem zY (h:DmQ K w0 w 0 12 hv (.slice (some ⟨g,0,none⟩) (ds.length+1) cap) fo s (ds++ [d])) (h4:d.stk.length≤4000) (hl:1≤d.stk.length) (ho:x.op.toNat=100):
  Calls Tryz.prog 113 #[.pointer (some ⟨K.mb,0,none⟩),.pointer (some ⟨g,ds.length*4,none⟩),aY x] w fun en w'=>en= .returned (.tuple #[])∧iy K w0 g cap ds d.q s d.pc (ba d.stk) d.loc 12 w':=by
 have HP:=hid (fun Y (hY:But (fun _=>False) w Y)=>e9 (h.new hY) hl h4);obtain⟨a2,_,_,_,_,c2,_,_⟩:=h.cs;obtain⟨a,c,a1⟩:=au h.st;rw[a1]at c2;have hn:=tf d.stk.length 0 (by omega);clear h a1 hl;unfold aY;rw[ho];clear ho;simp only[cU]at HP;generalize ds.length*4=o at*
 go_in
 go_wp2_with fail;refine(HP.out _ (But.alloc _ _ _)).mono ?_;rintro en w1 ⟨rfl,a0,sv,hM⟩;have hi:=(a0.block w.heap.size (by simp) (by show¬w.heap.size=g;omega)).trans (heap_alloc_new w _);have i0:=cell_of_row w1 _ 0 _ _ (0,0) hi;simp at i0;have a3:=ae hi;have HM:=hid hM;clear HP a0 hi hM;go_wp2_with fail;go_end0;exact⟨rfl,_,_,_,_,HM.out.new (But.alloc _ _ _)⟩
theorem zZ (h:DmQ K w0 w 0 12 hv (.slice (some ⟨g,0,none⟩) (ds.length+1) cap) fo s (ds++ [d])) (h4:d.stk.length≤4000) (hl:1≤d.stk.length) (hx:x.b<d.loc.length) (ho:x.op.toNat=115):
  Calls Tryz.prog 113 #[.pointer (some ⟨K.mb,0,none⟩),.pointer (some ⟨g,ds.length*4,none⟩),aY x] w fun en w'=>en= .returned (.tuple #[])∧iy K w0 g cap ds d.q s d.pc (ba d.stk) (d.loc.set x.b (aX d.stk)) 12 w':=by
 have HP:=hid (fun Y (hY:But (fun _=>False) w Y)=>e9 (h.new hY) hl h4);obtain⟨b5,_,_,_,_,c2,_,_⟩:=h.cs;obtain⟨a,c,a7⟩:=au h.st;rw[a7]at c2;have hn:=tf d.stk.length 0 (by omega);clear h a7 hl;unfold aY;rw[ho];clear ho;simp only[cU]at HP;generalize aX d.stk=v at*
 go_in
 go_wp2_with fail;refine(HP.out _ (But.alloc _ _ _)).mono ?_;rintro en w1 ⟨rfl,a5,sv,hM⟩;have hi:=(a5.block w.heap.size (by simp) (by show¬w.heap.size=g;omega)).trans (heap_alloc_new w _);have i0:=cell_of_row w1 _ 0 _ _ (0,0) hi;have i2:=cell_of_row w1 _ 2 _ _ (0,0) hi;simp at i0 i2;have b3:=ae hi;obtain⟨a9,_,_,_,_,_,c3,_⟩:=hM.cs;have a2:=hM.lo;simp only at c3 a2;obtain⟨al,cl,a4⟩:=au a2;rw[a4]at a2 c3;obtain⟨gl,rfl,a3,b9,a0⟩:=aG a2 (by omega);obtain⟨u,hu⟩: ∃u,d.loc[x.b]?=some u:=⟨_,List.getElem?_eq_getElem hx⟩;have q0:w1.cell? ⟨gl,x.b*2,none⟩=some (.int .u8 u.K):=a0 _ _ (bq (k:=0) hu (by omega))
 have q1:w1.cell? ⟨gl,x.b*2+1,none⟩=some (.int .i64 u.N):=a0 _ _ (bq (k:=1) hu (by omega));have z0:=kO a2 (x.b*2);have z1:=kO a2 (x.b*2+1);have HF:=hid (fun Y (hY:But (fun _=>False) w1 Y)=>(hM.new hY).setL (g:=gl) (by simp only;rw[a4];rfl) x.b v);have e1:(x.b:Int)<(d.loc.length:Int):=by omega
 clear HP a5 hi hM a2 a0 a4 hu;generalize b4:d.loc.length=ln at*;clear b4;generalize ds.length*4=o at*;go_wp2_with fail;obtain⟨X,hX⟩: ∃X,w1.alloc (.cells #[.int .u8 v.K,.int .i64 v.N] 135)=X:=⟨_,rfl⟩;have a1:But (fun _=>False) w1 X:=by rw[←hX];exact But.alloc _ _ _
 have hb:X.heap[w1.heap.size]?=some (.cells #[.int .u8 v.K,.int .i64 v.N] 135):=by rw[←hX];exact heap_alloc_new _ _
 rw[hX];have b0:=cell_of_row X _ 0 _ _ (0,0) hb;have b1:=cell_of_row X _ 1 _ _ (0,0) hb;simp at b0 b1;have a6:=ae hb;replace c3:=a1.kc c3 a9;replace i2:=a1.kc i2 b3;replace q0:=a1.kc q0 a3;replace q1:=a1.kc q1 a3;replace z0:=a1.kz z0 a3;replace z1:=a1.kz z1 a3;have hz:=a1.size;have a8:g<X.heap.size:=by omega
 have b2:w.heap.size<X.heap.size:=by omega
 have e0:gl<X.heap.size:=by omega
 clear hX hb c2 i0 hz a3;refine az (But (fun _=>False) X) 8 (by kernel_rfl) ?_;have hS:But (fun _=>False) X X.drew:=But.drew _ _
 iterate 8 (refine aB (v:=?_) rfl (by kernel_rfl) (fun _ _ _ h=>h) rfl hS ?_ ?_;rotate_left;(focus (intro wS h;have q0:=(h.kc c3 a8);have q1:=(h.kc i2 b2);have q2:=(h.kc b0 a6);have q3:=(h.kc b1 a6);clear h;go_simp;try rfl));dsimp only[Act.put];try simp only[aR])
 refine eF rfl (by kernel_rfl) ?_;go_wp2_with fail;go_end0;exact⟨rfl,_,_,_,_,(HF.out X a1).new (But.drew _ _)⟩
theorem z6 (h:DmQ K w0 w 0 12 hv (.slice (some ⟨g,0,none⟩) (ds.length+1) cap) fo s (ds++ [d])) (h4:d.stk.length≤4000) (hx:x.b<d.loc.length) (ho:x.op.toNat=108):
  Calls Tryz.prog 113 #[.pointer (some ⟨K.mb,0,none⟩),.pointer (some ⟨g,ds.length*4,none⟩),aY x] w fun en w'=>en= .returned (.tuple #[])∧iy K w0 g cap ds d.q s d.pc (d.stk++ [d.loc.getD x.b .z]) d.loc 12 w':=by
 obtain⟨u,hu⟩: ∃u,d.loc[x.b]?=some u:=⟨_,List.getElem?_eq_getElem hx⟩;rw[show d.loc.getD x.b .z=u from by rw[List.getD_eq_getElem?_getD,hu];rfl];have HP:=hid (fun Y (hY:But (fun _=>False) w Y)=>df (h.new hY) u h4);obtain⟨a7,_,_,_,_,_,c3,_⟩:=h.cs;have a2:=h.lo;obtain⟨al,cl,a5⟩:=au a2;rw[a5]at a2 c3;obtain⟨gl,rfl,a3,a9,a0⟩:=aG a2 (by omega);have q0:w.cell? ⟨gl,x.b*2,none⟩=some (.int .u8 u.K):=a0 _ _ (bq (k:=0) hu (by omega));have q1:w.cell? ⟨gl,x.b*2+1,none⟩=some (.int .i64 u.N):=a0 _ _ (bq (k:=1) hu (by omega));have b0:(x.b:Int)<(d.loc.length:Int):=by omega
 clear h a2 a5 a0 hu hx;unfold aY;rw[ho];clear ho;generalize d.loc.length=ln at*;obtain⟨X,hX⟩: ∃X,w.alloc (.cells #[.int .u8 108,.int .i64 x.a,.int .i64 x.b,.int .i64 x.pos] 144)=X:=⟨_,rfl⟩;have a1:But (fun _=>False) w X:=by rw[←hX];exact But.alloc _ _ _
 have hb:X.heap[w.heap.size]?=some (.cells #[.int .u8 108,.int .i64 x.a,.int .i64 x.b,.int .i64 x.pos] 144):=by rw[←hX];exact heap_alloc_new _ _
 have b2:=cell_of_row X _ 2 _ _ (0,0) hb;simp at b2;have a6:=ae hb;replace c3:=a1.kc c3 a7;replace q0:=a1.kc q0 a3;replace q1:=a1.kc q1 a3;have hz:=a1.size;have a8:g<X.heap.size:=by omega
 have a4:gl<X.heap.size:=by omega
 have HX:=hid hX;clear hX hb hz;simp only[cU]at HP;generalize ds.length*4=o at*
 go_in
 go_wp2_with fail;rw[HX.out];refine az (But (fun _=>False) X) 9 (by kernel_rfl) ?_;have hS:But (fun _=>False) X X.drew:=But.drew _ _
 iterate 9 (refine iP (v:=?_) rfl (by kernel_rfl) (fun _ _ _ h=>h) rfl hS ?_ ?_;rotate_left;(focus (intro wS h;have Q0:=(h.kc c3 a8);have Q1:=(h.kc b2 a6);have Q2:=(h.kc q0 a4);have Q3:=(h.kc q1 a4);clear h;go_simp;try rfl));dsimp only[Act.put];try simp only[aR])
 refine ag rfl (by kernel_rfl) ?_;intro KS hKS;go_simp;refine(HP.out _ (a1.trans hS)).mono ?_;rintro en w1 ⟨rfl,sv,hM⟩;refine hKS.out _ _ nofun ?_;clear hKS KS HP;refine aD rfl (by kernel_rfl) ?_;go_wp2_with fail;go_end0;exact⟨rfl,_,_,_,_,hM⟩
theorem AV (h:DmQ K w0 w 0 12 hv (.slice (some ⟨g,0,none⟩) (ds.length+1) cap) fo s (ds++ [d])) (h4:d.stk.length≤4000) (ho:x.op.toNat=122):
  Calls Tryz.prog 114 #[.pointer (some ⟨K.mb,0,none⟩),.pointer (some ⟨g,ds.length*4,none⟩),aY x] w fun en w'=>en= .returned (.tuple #[])∧iy K w0 g cap ds d.q s d.pc (d.stk++ [.z]) d.loc 12 w':=by
 have HP:=hid (fun Y (hY:But (fun _=>False) w Y)=>df (h.new hY) .z h4);clear h;unfold aY;rw[ho];clear ho;simp only[cU,r9,sc]at HP;generalize ds.length*4=o at*
 go_in
 go_wp2_with fail;refine(HP.out _ (But.alloc _ _ _)).mono ?_;rintro en w1 ⟨rfl,sv,hM⟩;clear HP;go_wp2_with fail;go_end0;exact⟨rfl,_,_,_,_,hM⟩
def ofV (im:Img) (s:Ev) (v:V) (y:Nat):Bool:=match v with
 | .o k=>bk im.classes 5 (s.cls k) y
 |_=>true
def oa (im:Img) (s:Ev) (v:V):Prop:=v= .z∨ ∃k ob,v= .o k∧s.heap[k]?=some ob∧ob.cls<im.classes.length
theorem Aa {im:Img} {val e:Int} {fv:Value} {v:V} (h:DmQ K w0 w val e hv fv fo s ds) (hI:bT w0 K.bi im) (hw:WfC im.classes) (hv':oa im s v) (h4:s.heap.length≤4000) (y:Nat):
  Calls Tryz.prog 176 #[.pointer (some ⟨K.mb,0,none⟩),cU v,.int .i64 y] w fun en w'=>en= .returned (.bool (ofV im s v y))∧But (fun _=>False) w w':=by
 rcases hv' with rfl| ⟨k,ob,rfl,hk,hc⟩
 ·exact yv h y
 ·have:=yw h hI hw hk hc h4 y;rw[show ofV im s (.o k) y=bk im.classes 5 ob.cls y from by simp only[ofV];rw[(Ev.at hk).1]];exact this
theorem AW {im:Img} (h:DmQ K w0 w 0 12 hv (.slice (some ⟨g,0,none⟩) (ds.length+1) cap) fo s (ds++ [d])) (h4:d.stk.length≤4000) (hl:1≤d.stk.length) (hI:bT w0 K.bi im) (hw:WfC im.classes) (hv':oa im s (aX d.stk)) (hh:s.heap.length≤4000) (ho:x.op.toNat=120):
  Calls Tryz.prog 114 #[.pointer (some ⟨K.mb,0,none⟩),.pointer (some ⟨g,ds.length*4,none⟩),aY x] w fun en w'=>en= .returned (.tuple #[])∧iy K w0 g cap ds d.q s d.pc d.stk d.loc (if ofV im s (aX d.stk) x.a=true then 12 else 8) w':=by
 have HP:=hid (fun Y (hY:But (fun _=>False) w Y)=>e9 (h.new hY) hl h4);have a7:=h.cs.1;have a5:(ba d.stk).length≤4000:=by simp[ba];omega
 obtain⟨a6,_,_⟩:=mJ hl;have a3:=hid a6;have HO:=hid (fun(Y:World) fv ds (hM:DmQ K w0 Y 0 12 hv fv fo s ds)=>Aa hM hI hw hv' hh x.a);obtain⟨b,hb⟩: ∃b,ofV im s (aX d.stk) x.a=b:=⟨_,rfl⟩;rw[hb]at HO⊢;generalize aX d.stk=v at*;clear h a6 hI hw hv' hb;unfold aY;rw[ho];clear ho;simp only[cU]at HP HO
 go_in
 go_wp2_with fail;refine(HP.out _ (But.alloc _ _ _)).mono ?_;rintro en w1 ⟨rfl,a4,sv,hM⟩;have hi:=(a4.block w.heap.size (by simp) (by show¬w.heap.size=g;omega)).trans (heap_alloc_new w _);have i1:=cell_of_row w1 _ 1 _ _ (0,0) hi;simp at i1;have a8:=ae hi;have HM:=hid hM;clear HP a4 hi hM;go_wp2_with fail;have a2:=HM.out.new (But.alloc (fun _=>False) w1 (.cells #[.int .u8 v.K,.int .i64 v.N] 135));refine(HO.out _ _ _ a2).mono ?_;rintro en w2 ⟨rfl,a1⟩;have hi:=(a1.block w1.heap.size (by simp) (fun h=>h)).trans (heap_alloc_new w1 _);have j0:=cell_of_row w2 _ 0 _ _ (0,0) hi;have j1:=cell_of_row w2 _ 1 _ _ (0,0) hi
 simp at j0 j1;have a9:=ae hi;have a0:=a2.new a1;have c9:=a0.mc.cs.2.2.2.2.2.2.2.2.2;have z9:=a0.mc.fz 9;have b0:=a0.lt;clear HO HM a2 a1 hi
 cases b
 ·have HQ:=hid (df (a0.own (val':=0) (e':=8) (s':=s) (But.setB w2 K.mb 9 (.int .i64 8)) rfl (a0.mc.set9 8)) v a5);simp only[cU]at HQ;rw[←a3.out]at HQ;clear a0;go_wp2_with fail;refine HQ.out.mono ?_;rintro en w3 ⟨rfl,sv',hM⟩;clear HQ;go_wp2_with fail;go_end0;exact⟨rfl,_,_,_,_,hM⟩
 ·have HQ:=hid (df a0 v a5);simp only[cU]at HQ;rw[←a3.out]at HQ;clear a0;go_wp2_with fail;refine HQ.out.mono ?_;rintro en w3 ⟨rfl,sv',hM⟩;clear HQ;go_wp2_with fail;go_end0;exact⟨rfl,_,_,_,_,hM⟩
end
theorem pi (bd:Bod) (vc vt:Value) (hvt: ∃ak n capk,vt= .slice ak n capk) (vs:List V) (ao:Option Addr) (cap:Nat) (w:World) (hl:bd.locals.length≤5) (hv:vs.length≤bd.locals.length) (base:Nat) (hs:w.ownsRow base 135 2 (.slice ao vs.length cap) vs.length (aM vs)):
  Calls Tryz.prog 66 #[.agg #[.int .i64 bd.cls,.int .i64 bd.meth,.string ⟨bd.locals.toArray⟩,vt,.slice none 0 0],.slice ao vs.length cap] w fun en w'=> ∃v,en= .returned v∧w'.ownsRow w.heap.size 135 2 v (bA bd vs).length (aM (bA bd vs))∧But (fun _=>False) w w':=by
 obtain⟨ak,n,capk,rfl⟩:=hvt;obtain⟨lo,e2⟩: ∃lo,bd.locals=lo:=⟨_,rfl⟩;have HL:Hid (bA bd vs=vs++(lo.drop vs.length).map bN):=by show _=_;unfold bA;rw[e2]
 obtain⟨nv,e3⟩: ∃nv,vs.length=nv:=⟨_,rfl⟩;have a7:=hid e3;rw[e2]at hl hv⊢;rw[e3]at hs hv⊢;clear e2 e3
 go_in
 go_wp2_with fail;obtain⟨W0,b1⟩: ∃W0,w.alloc (.cells #[.int .i64 bd.cls,.int .i64 bd.meth,.string ⟨lo.toArray⟩,.slice ak n capk,.slice none 0 0] 52)=W0:=⟨_,rfl⟩;have e8:W0.heap[w.heap.size]?=some (.cells #[.int .i64 bd.cls,.int .i64 bd.meth,.string ⟨lo.toArray⟩,.slice ak n capk,.slice none 0 0] 52):=by rw[←b1];exact heap_alloc_new _ _
 have b3:But (fun _=>False) w W0:=by rw[←b1];exact But.alloc _ _ _
 rw[b1];clear b1;have e7:=ar hs b3 (fun _ _ h=>h)
 go_loopg [5,6] nv (fun mm ls ks wr=> ∃(ap:Option Addr) (cp k:Nat) (L:List V),ls= .slice ap k cp∧ks= .int .i64 k∧k+mm≤nv∧nv≤k+mm∧wr.ownsRow W0.heap.size 135 2 (.slice ap k cp) k (aM L)∧But (fun _=>False) W0 wr∧Hid (L=vs.take k))
 case atStart=>exact⟨none,0,0,[],rfl,rfl,by omega,by omega,cC _ _ _ _,But.refl _ _,rfl⟩
 case round=>
  obtain⟨ap,cp,k,L,rfl,rfl,f0,f1,a4,a2,a3⟩:=hrel;have b0:=a2.size
  by_cases hlt:k<nv
  ·have e1:(k:Int)<(nv:Int):=by omega
   have a6:k<vs.length:=by rw[a7.out];exact hlt
   have a9:L.length=k:=by rw[a3.out];simp;omega
   have b2:=hid a9;obtain⟨u,hu⟩: ∃u,vs[k]=u:=⟨_,rfl⟩;have HT:Hid (L++ [u]=vs.take (k+1)):=by show _=_;rw[List.take_succ_eq_append_getElem a6,hu,a3.out]
   obtain⟨g,rfl,f5,f6,a0⟩:=aG (ar e7 a2 (fun _ _ h=>h)) (by omega);have hx:vs[k]?=some u:=by rw[List.getElem?_eq_getElem a6,hu]
   have q0:wr.cell? ⟨g,k*2,none⟩=some (.int .u8 u.K):=a0 _ _ (bq (k:=0) hx (by omega));have q1:wr.cell? ⟨g,k*2+1,none⟩=some (.int .i64 u.N):=a0 _ _ (bq (k:=1) hx (by omega));clear hu a9 a6 hx a0;go_wp2_with (at_builtin;refine eX rfl _ _ rfl wr W0.heap.size _ L k b2.out _ _ u rfl rfl rfl wr.heap.size rfl rfl (by exact a4) (by omega) (by omega) ?_);intro gg cap3 w2 a1 a8 e0;have b5:But (fun _=>False) W0 w2:=a2.next a8 (fun k' hk' h=>by have:=aU a4 k' h;have:=ay a4 k' h;omega);clear a8 e0 q0 q1;go_wp2_with fail
   go_roundg (nv-(k+1))
   case measure=>omega
   case rel=>exact⟨_,cap3,k+1,L++ [u],by simp,by simp,by omega,by omega,a1,b5,HT⟩
  ·have e1: ¬(k:Int)<(nv:Int):=by omega
   have f3:nv=k:=by omega
   subst f3;have e4:L=vs:=by rw[a3.out];exact List.take_of_length_le (by rw[a7.out];omega)
   rw[e4]at a4;clear e4 a3 L;go_wp2_with fail
   go_loopg [5,7] (lo.length-nv) (fun mm ls ks wr=> ∃(ap:Option Addr) (cp k:Nat) (L:List V),ls= .slice ap k cp∧ks= .int .i64 k∧k+mm≤lo.length∧lo.length≤k+mm∧nv≤k∧wr.ownsRow W0.heap.size 135 2 (.slice ap k cp) k (aM L)∧But (fun _=>False) W0 wr∧Hid (L=vs++((lo.take k).drop nv).map bN))
   case atStart=>exact⟨_,_,nv,vs,rfl,rfl,by omega,by omega,by omega,a4,a2,by show _=_;rw[List.drop_eq_nil_of_le (by simp;omega)];simp⟩
   case round=>
    clear a4 a2 b0;obtain⟨ap,cp,k,L,rfl,rfl,f0,f1,f8,a4,a2,a3⟩:=hrel;have b0:=a2.size;have e5:=a2.kp e8;have g2:=ce2 e5;have f7:=ae e5;have e6:((⟨lo.toArray⟩:ByteArray).size:Int)=(lo.length:Int):=rfl
    by_cases hlt:k<lo.length
    ·have e1:(k:Int)<(lo.length:Int):=by omega
     obtain⟨C,hC⟩: ∃C,lo[k]=C:=⟨_,rfl⟩;have kC: ∀h,(⟨lo.toArray⟩:ByteArray)[k]'h=C:=fun h=>by rw[←hC];exact jv lo _ hlt _
     have g0:k<(⟨lo.toArray⟩:ByteArray).size:=hlt;have a9:L.length=k:=by rw[a3.out];have:=a7.out;simp;omega
     have b2:=hid a9;obtain⟨u,hu⟩: ∃u,bN C=u:=⟨_,rfl⟩
     have HT:Hid (L++ [u]=vs++((lo.take (k+1)).drop nv).map bN):=by
      show _=_
      rw[List.take_succ_eq_append_getElem hlt,hC,a3.out,←hu,List.drop_append_of_le_length (by simp;omega)];simp
     have hp:=o8 C wr;rw[hu]at hp;have HP:=hid hp;clear hC hu a9 hp;go_wp2_with fail;refine HP.out.mono ?_;rintro en w1 ⟨rfl,b4⟩;simp only[cU];have a5:=a2.trans b4;have f4:=a5.size;have b9:=ar a4 b4 (fun _ _ h=>h);go_wp2_with (at_builtin;refine eX rfl _ _ rfl (w1.alloc (.cells #[.int .u8 u.K,.int .i64 u.N] 135)) W0.heap.size _ L k b2.out _ _ u rfl rfl rfl (w1.heap.size+1) (by simp) rfl (ar b9 (But.alloc (fun _=>False) _ _) (fun _ _ h=>h)) (by omega) (by simp;omega) ?_);intro gg cap3 w2 a1 a8 e0;have b5:But (fun _=>False) W0 w2:=(a5.trans (But.alloc _ _ _)).next a8 (fun k' hk' h=>by have:=ay b9 k' h;omega)
     clear a8 e0 b9 a5 b4 g2;go_wp2_with fail
     go_roundg (lo.length-(k+1))
     case measure=>omega
     case rel=>exact⟨_,cap3,k+1,L++ [u],by simp,by simp,by omega,by omega,by omega,a1,b5,HT⟩
    ·have e1: ¬(k:Int)<(lo.length:Int):=by omega
     go_wp2_with fail;go_ret;refine⟨_,rfl,?_,b3.trans a2⟩;have f2:k=lo.length:=by omega
     have e:bA bd vs=L:=by rw[HL.out,a3.out,f2,List.take_length,a7.out]
     rw[e,show L.length=k from by rw[a3.out];have:=a7.out;simp;omega];exact ft a4 b3.size
theorem xB:(Tryz.prog.info? 121).map (fun i=>(i.zero,i.size,i.bytes))=some (some (.agg #[.int .i64 0,.int .i64 0,.slice none 0 0,.slice none 0 0]),4,64):=by kernel_rfl
theorem bT.body {w:World} {bi:Nat} {im:Img} (h:bT w bi im) {k:Nat} {b:Bod} (hk:im.bodies[k]?=some b):
  ∃(g cap:Nat) (ak:Option Addr) (capk:Nat),w.cell? ⟨bi,2,none⟩=some (.slice (some ⟨g,0,none⟩) im.bodies.length cap)∧(k:Int)<(im.bodies.length:Int)∧bi<w.heap.size∧g<w.heap.size∧w.ownsRow 0 144 4 (.slice ak b.code.length capk) b.code.length (cE b.code)∧w.cell? ⟨g,k*5,none⟩=some (.int .i64 b.cls)∧w.cell? ⟨g,k*5+1,none⟩=some (.int .i64 b.meth)∧w.cell? ⟨g,k*5+2,none⟩=some (.string ⟨b.locals.toArray⟩)∧w.cell? ⟨g,k*5+3,none⟩=some (.slice ak b.code.length capk)∧w.cell? ⟨g,k*5+4,none⟩=some (.slice none 0 0):=by
 obtain⟨v0,v1,v2,l,a4,hC,hS,hB,hl,a5⟩:=h;have b0:=(List.getElem?_eq_some_iff.1 hk).1;have a7:l.length=im.bodies.length:=by rw[←hl];simp
 obtain⟨a2,a3,rfl⟩:=au hB;obtain⟨g,rfl,a6,a9,a0⟩:=aG hB (by omega);have hx:=List.getElem?_eq_getElem (show k<l.length by omega)
 have hb:l[k].1=b:=by
  have h1:(l.map (·.1))[k]?=im.bodies[k]?:=by rw[hl]
  rw[List.getElem?_map,hx,hk]at h1;simpa using h1
 obtain⟨a1,a8⟩:=a5 _ (List.getElem_mem (show k<l.length by omega));rw[hb]at a1;obtain⟨ak,capk,hv⟩:=au a1;have c2:=a4.c2;rw[a7]at c2;rw[hv]at a1;refine⟨g,a3,ak,capk,c2,by omega,a4.lt,a6,a1,?_,?_,?_,?_,?_⟩
 ·rw[←hb];exact a0 _ _ (fU hx)
 ·rw[←hb];exact a0 _ _ (fV hx)
 ·rw[←hb];exact a0 _ _ (iL hx)
 ·rw[←hv];exact a0 _ _ (iM hx)
 ·rw[←a8];exact a0 _ _ (iN hx)
def Ab (K:Dk) (w0:World) (e:Int) (o:List UInt8) (w':World):Prop:= ∃hv fv fo s ds,s.out=o∧DmQ K w0 w' 0 e hv fv fo s ds
section
variable {K:Dk} {w0 w w':World} {hv:Value} {fo:List Value} {s:Ev} {ds:List Fd} {d:Fd} {g cap:Nat} {x:Ins} {im:Img}
theorem yy (h:DmQ K w0 w 0 12 hv (.slice (some ⟨g,0,none⟩) (ds.length+1) cap) fo s (ds++ [d])) (h4:d.stk.length≤4000) (hl:2≤d.stk.length) (hv':dP d.stk= .z):
  Calls Tryz.prog 111 #[.pointer (some ⟨K.mb,0,none⟩),.pointer (some ⟨g,ds.length*4,none⟩),aY x] w fun en w'=>en= .returned (.tuple #[])∧Ab K w0 6 s.out w':=by
 have HP:=hid (fun Y (hY:But (fun _=>False) w Y)=>jc (h.new hY) h4 hl);have a9:=h.cs.1;have HO:=hid (fun(Y:World) fv ds (hM:DmQ K w0 Y 0 12 hv fv fo s ds)=>yv hM x.a);rw[hv']at HP;generalize aX d.stk=v at*;clear h hv';unfold aY;simp only[cU,r9,sc]at HP HO
 go_in
 go_wp2_with fail;refine(HP.out _ (But.alloc _ _ _)).mono ?_;rintro en w1 ⟨rfl,a2,a1⟩;replace a1:=hid a1;have a8:=a2.size;simp at a8;have a7:=(a2.block w.heap.size (by simp) (by show¬w.heap.size=g;omega)).trans (heap_alloc_new w _);clear HP a2;go_wp2_with fail;refine(a1.out _ (But.alloc _ _ _)).mono ?_;rintro en w2 ⟨rfl,a6,sv,hM⟩;have hk:=(a6.block w.heap.size (by simp;omega) (by show¬w.heap.size=g;omega)).trans (((But.alloc (fun _=>False) _ _).block w.heap.size (by omega) (fun h=>h)).trans a7);have k1:=cell_of_row w2 _ 1 _ _ (0,0) hk;simp at k1;have b1:=ae hk;have HM:=hid hM;clear a1 a6 hM hk a7
 go_wp2_with fail;have a4:=HM.out.new (But.alloc (fun _=>False) w2 (.cells #[.int .u8 122,.int .i64 0] 135));refine(HO.out _ _ _ a4).mono ?_;rintro en w3 ⟨rfl,a3⟩;have hi:=(a3.block w2.heap.size (by simp) (fun h=>h)).trans (heap_alloc_new w2 _);have j0:=cell_of_row w3 _ 0 _ _ (0,0) hi;simp at j0;have b0:=ae hi;have a0:=a4.new a3;have c9:=a0.mc.cs.2.2.2.2.2.2.2.2.2;have z9:=a0.mc.fz 9;have b2:=a0.lt;have a5:=hid a0;clear HO HM a4 a3 hi a0;go_wp2_with fail;exact eo Tryz.results111 rfl ⟨rfl,_,_,_,_,_,rfl,a5.out.own (val':=0) (e':=6) (s':=s) (But.setB w3 K.mb 9 (.int .i64 6)) rfl (a5.out.mc.set9 6)⟩
theorem yz (h:DmQ K w0 w 0 12 hv (.slice (some ⟨g,0,none⟩) (ds.length+1) cap) fo s (ds++ [d])) (h4:d.stk.length≤4000) (hl:2≤d.stk.length) (hI:bT w0 K.bi im) (hw:WfI im) {k:Nat} {ob:Ob} (hv':dP d.stk= .o k) (hk:s.heap[k]?=some ob) (hc:ob.cls<im.classes.length) (hu:bk im.classes 5 ob.cls x.a=true) (hh:s.heap.length≤4000) (h12:ds.length≤100) {b:Nat} {bd:Bod} (hfd:cd im.classes im.bodies x.b 5 ob.cls=b) (hbd:im.bodies[b]?=some bd) (hb2:2≤bd.locals.length):
  Calls Tryz.prog 111 #[.pointer (some ⟨K.mb,0,none⟩),.pointer (some ⟨g,ds.length*4,none⟩),aY x] w fun en w'=>en= .returned (.tuple #[])∧((12≤ds.length+1∧Ab K w0 10 s.out w')∨(¬12≤ds.length+1∧ ∃hv fv fo sv lv vl,DmQ K w0 w' 0 12 hv fv fo s ((ds++ [⟨d.q,d.pc,cH d.stk,d.loc,sv,lv⟩])++ [⟨b,0,[],bA bd [.o k,aX d.stk],.slice none 0 0,vl⟩]))):=by
 have HP:=hid (fun Y (hY:But (fun _=>False) w Y)=>jc (h.new hY) h4 hl);have k0:=h.cs.1;have HO:=hid (fun(Y:World) fv ds (hM:DmQ K w0 Y 0 12 hv fv fo s ds)=>yw hM hI hw.cls hk hc hh x.a);rw[hu]at HO;rw[hv']at HP;generalize aX d.stk=v at*;clear h hv' hu;unfold aY;simp only[cU,sd,si]at HP HO
 go_in
 go_wp2_with fail;refine(HP.out _ (But.alloc _ _ _)).mono ?_;rintro en w1 ⟨rfl,e7,b5⟩;replace b5:=hid b5;have i9:=e7.size;simp at i9;have g5:=(e7.block w.heap.size (by simp) (by show¬w.heap.size=g;omega)).trans (heap_alloc_new w _);clear HP e7;go_wp2_with fail;refine(b5.out _ (But.alloc _ _ _)).mono ?_;rintro en w2 ⟨rfl,e8,sv,hM⟩;have e3:=(e8.block w.heap.size (by simp;omega) (by show¬w.heap.size=g;omega)).trans (((But.alloc (fun _=>False) _ _).block w.heap.size (by omega) (fun h=>h)).trans g5);have e4:=(e8.block w1.heap.size (by simp) (by show¬w1.heap.size=g;omega)).trans (heap_alloc_new w1 _)
 have k1:=cell_of_row w2 _ 1 _ _ (0,0) e3;simp at k1;have e1:=ae e3;have HM:=hid hM;clear b5 e8 hM g5;go_wp2_with fail;have hA:=But.alloc (fun _=>False) w2 (.cells #[.int .u8 111,.int .i64 k] 135);have f6:=HM.out.new hA;refine(HO.out _ _ _ f6).mono ?_;rintro en w3 ⟨rfl,b0⟩;have hi:=(b0.block w2.heap.size (by simp) (fun h=>h)).trans (heap_alloc_new w2 _);have a4:=((hA.trans b0).block w.heap.size e1 (fun h=>h)).trans e3;have a1:=((hA.trans b0).block w1.heap.size (ae e4) (fun h=>h)).trans e4;have a3:=f6.new b0;have i7:w1.heap.size<w2.heap.size:=ae e4;clear HO HM f6 b0 e3 e4 hA k1 e1;generalize w1.heap.size=bv at*
 generalize w2.heap.size=bo at*;have j0:=cell_of_row w3 _ 0 _ _ (0,0) hi;have j1:=cell_of_row w3 _ 1 _ _ (0,0) hi;have k2:=cell_of_row w3 _ 2 _ _ (0,0) a4;have v0:=cell_of_row w3 _ 0 _ _ (0,0) a1;have v1:=cell_of_row w3 _ 1 _ _ (0,0) a1;simp at j0 j1 k2 v0 v1;have a8:=ae hi;have e1:=ae a4;have a9:=ae a1;obtain⟨c0,_,c2,c3,_,_,_,_,_,c9⟩:=a3.mc.cs;have z9:=a3.mc.fz 9;have f8:=a3.lt;have b3:=hid a3
 by_cases hd:12≤ds.length+1
 ·have i1:12≤(ds.length:Int)+1:=by omega
  clear a3 hi a4 a1;go_wp2_with fail;exact eo Tryz.results111 rfl ⟨rfl,Or.inl ⟨hd,_,_,_,_,_,rfl,b3.out.own (val':=0) (e':=10) (s':=s) (But.setB w3 K.mb 9 (.int .i64 10)) rfl (b3.out.mc.set9 10)⟩⟩
 ·have i1: ¬12≤(ds.length:Int)+1:=by omega
  obtain⟨gh,ch,vf,rfl,_,i2,x0,_,_⟩:=a3.obj hk;obtain⟨gb,cb,ak,capk,e2,j7,f7,a2,_,f0,f1,f2,f3,f4⟩:=(hI.but a3.old).body hbd;have k3:(k:Int)<(s.heap.length:Int):=by have:=(List.getElem?_eq_some_iff.1 hk).1;omega
  have e6:=hid (fun n=>qT K.bi im ob.cls x.b (w3.drewN n) (hI.but (a3.old.trans (But.drewN _ _ n))).hds hw.cls hw.nc hw.nb (by omega) (by omega));rw[hfd]at e6;have i4:=(hw.bod bd (List.mem_of_getElem? hbd)).loc.1;generalize ob.cls=oc at*;have e5:=hid (And.intro hi a1);clear a3 hi a4 a1 hfd hc c9 z9;go_wp2_with fail
  go_quiet (exact Calls.quiet_of_same (e6.out _))
  obtain⟨X,hX⟩: ∃X,w3.drewN nq=X:=⟨_,rfl⟩;have a0:But (fun _=>False) w3 X:=by rw[←hX];exact But.drewN _ _ _
  rw[hX];have b4:=hid (b3.out.new a0);have h8:=(a0.block bo a8 (fun h=>h)).trans e5.out.1;have h9:=(a0.block bv a9 (fun h=>h)).trans e5.out.2;replace c0:=a0.kc c0 f8;replace e2:=a0.kc e2 f7;replace f0:=a0.kc f0 a2;replace f1:=a0.kc f1 a2;replace f2:=a0.kc f2 a2;replace f3:=a0.kc f3 a2;replace f4:=a0.kc f4 a2;replace j0:=a0.kc j0 a8;replace j1:=a0.kc j1 a8;replace v0:=a0.kc v0 a9;replace v1:=a0.kc v1 a9;have hz:=a0.size;replace f8:K.mb<X.heap.size:=by omega
  replace f7:K.bi<X.heap.size:=by omega
  replace a2:gb<X.heap.size:=by omega
  replace a8:bo<X.heap.size:=by omega
  replace a9:bv<X.heap.size:=by omega
  clear b3 e6 e5 hX a0 hz c2 c3 x0 i2 k2 e1 h8 h9;generalize g6:im.bodies.length=nb at*;have j5:=hid g6;clear g6;have g0:=hid (fun(Y:World) ao base hs=>pi bd (.slice none 0 0) (.slice ak bd.code.length capk) ⟨_,_,_,rfl⟩ [.o k,v] ao 2 Y i4 hb2 base hs);go_wp2_with fail;refine az (But (fun _=>False) X) 14 (by kernel_rfl) ?_;have hS:But (fun _=>False) X X.drew:=But.drew _ _
  iterate 12 (refine aB (v:=?_) rfl (by kernel_rfl) (fun _ _ _ h=>h) rfl hS ?_ ?_;rotate_left;(focus (intro wS h;have q0:=(h.kc c0 f8);have q1:=(h.kc e2 f7);have q2:=(h.kc f0 a2);have q3:=(h.kc f1 a2);have q4:=(h.kc f2 a2);have q5:=(h.kc f3 a2);have q6:=(h.kc f4 a2);have q7:=(h.kc j0 a8);have q8:=(h.kc j1 a8);have q9:=(h.kc v0 a9);have l0:=(h.kc v1 a9);clear h;go_simp;try rfl));dsimp only[Act.put];try simp only[aR])
  refine ag rfl (by kernel_rfl) ?_;intro KS hKS;go_simp;refine hKS.out _ _ (fun _=>(But.alloc _ _ _).trans (But.drew _ _)) ?_;clear hKS KS c0 e2 f0 f1 f2 f3 f4 j0 j1 v0 v1;obtain⟨Y,hY⟩: ∃Y,(X.alloc (.cells #[.int .u8 111,.int .i64 k,.int .u8 v.K,.int .i64 v.N] 135)).drew=Y:=⟨_,rfl⟩;have b1:But (fun _=>False) X Y:=by rw[←hY];exact(But.alloc _ _ _).trans (But.drew _ _)
  have h0:Y.ownsRow X.heap.size 135 2 (.slice (some ⟨X.heap.size,0,none⟩) 2 2) 2 (aM [.o k,v]):=by
   refine⟨rfl,Or.inr ⟨X.heap.size,2,#[.int .u8 111,.int .i64 k,.int .u8 v.K,.int .i64 v.N],rfl,Nat.le_refl _,?_,by omega,by unfold maxLen;omega,rfl,rfl⟩⟩;rw[←hY];exact((But.drew (fun _=>False) _).block _ (by simp) (fun h=>h)).trans (heap_alloc_new X _)
  rw[hY];clear hY hS;refine ag rfl (by kernel_rfl) ?_;intro KS hKS;go_simp;refine(g0.out Y _ _ h0).mono ?_;rintro en w5 ⟨vl,rfl,b9,f5⟩;refine hKS.out _ _ (fun _=>b1.trans f5) ?_;clear hKS KS;refine ag rfl (by kernel_rfl) ?_;intro KS hKS;go_simp;refine hKS.out _ _ nofun ?_;clear hKS KS;refine aD rfl (by kernel_rfl) ?_;obtain⟨al,cl,rfl⟩:=au b9;have a5:=b4.out.new (b1.trans f5)
  have h1:Hid (∀g',(Value.slice al (bA bd [.o k,v]).length cl).ownBlock=some g'→ ∀a u l,b8 s.heap fo (ds++ [⟨d.q,d.pc,cH d.stk,d.loc,sv,d.lv⟩]) a=some (u,l)→u.ownBlock≠some g'):=fun g' hg' a u l ha hv=>by
   have:=ay b9 g' hg';have:=aU (b4.out.rw.row a u l ha) g' hv;have:=b1.size;omega
  have k9:=a5.old.size;have g2:=ft b9 (Nat.le_trans b4.out.old.size b1.size);clear g0 h0 b1 f5 b4 b9;have c3:=a5.mc.cs.2.2.2.1;have z3:=a5.mc.fz 3;have a7:=a5.lt;have g4:=a5.fr;have h3:=hid a5;have h6:=hid g2;obtain⟨i0,i3,j2,j3,j4⟩:=info_parts xB;have g3:(ds++ [(⟨d.q,d.pc,cH d.stk,d.loc,sv,d.lv⟩:Fd)]).length=ds.length+1:=by simp
  rw[g3]at g4;have ab: ¬g=K.mb:=a5.cs.2.2.1;generalize g1:bA bd [.o k,v]=LL at*;have h2:=hid g1;clear a5 g2 g1;generalize g7:LL.length=nl at*;have h5:=hid g7;clear g7;go_wp2_with (at_builtin;refine wpList_append_lies _ rfl _ _ _ rfl w0.heap.size 121 i0 _ 4 64 (by kernel_rfl) i3 j2 j3 j4 rfl (by omega) _ (ds.length+1) (dn (ds++ [⟨d.q,d.pc,cH d.stk,d.loc,sv,d.lv⟩])) rfl (g4.alloc _) ⟨w5.heap.size,0,none⟩ 1 1 [.int .i64 b,.int .i64 0,.slice none 0 0,.slice al nl cl] rfl rfl (World.news_of_block (cs:=#[.int .i64 b,.int .i64 0,.slice none 0 0,.slice al nl cl]) (t:=121) (fr:=(0,0)) (heap_alloc_new w5 _)) (by simp[Value.oneCell']) (by omega) (by unfold maxLen;omega) (by omega) (by simp;omega) (w5.heap.size+1) (by simp) ?_)
  intro gg cap3 w6 b2 a6 h7 i5;have e0:But (fun k'=>(Value.slice (some ⟨g,0,none⟩) (ds.length+1) cap).ownBlock=some k') w5 w6:=(But.alloc _ _ _).trans (aQ a6);have y0:=(e0.cell (p:=⟨K.mb,3,none⟩) a7 (fun e=>ab (by simpa[Value.ownBlock]using e))).trans c3;have y1:=(e0.frozen (p:=⟨K.mb,3,none⟩) a7 (fun e=>ab (by simpa[Value.ownBlock]using e))).trans z3;have i6:K.mb<w6.heap.size:=Nat.lt_of_lt_of_le a7 e0.size;clear c3 z3 a6 h7;go_wp2_with fail;go_end0;rw[h2.out];refine⟨rfl,Or.inr ⟨hd,_,_,_,_,_,_,h3.out.call (q:=b) (vl:= .slice al nl cl) (l:=LL) (by rw[h5.out];exact h6.out) h1.out e0 ?_⟩⟩;rw[fO,g3]
  exact b2
end
end
end Go.Proofs.YtpfkkmacakjmbaaGreatDoor
