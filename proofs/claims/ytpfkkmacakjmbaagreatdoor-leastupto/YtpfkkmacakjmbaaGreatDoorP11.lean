import Derived.Test.YtpfkkmacakjmbaaGreatDoorP10
import Derived.Laws.StructEq
import Derived.Test.YtpfkkmacakjmbaaGreatDoorP01
import Derived.Laws.MakeOwn
set_option maxRecDepth 100000
set_option maxHeartbeats 6400000
set_option linter.unusedSimpArgs false
set_option linter.unusedVariables false
namespace Go.Proofs.YtpfkkmacakjmbaaGreatDoor
section
open Go Go.RowKit Sp
attribute [local go_sem ↓] Go.wp_at_zero Go.wp_at_succ
def uJ (R:Option (List UInt8×List UInt8)) (st lo:List UInt8):Value:=match R with
 |some (s,l)=> .tuple #[.agg #[.bool true,.string ⟨s.toArray⟩,.string ⟨l.toArray⟩],.bool true]
 |none=> .tuple #[.agg #[.bool true,.string ⟨st.toArray⟩,.string ⟨lo.toArray⟩],.bool false]
theorem fm (l:List UInt8) (k:Nat):(⟨l.toArray⟩:ByteArray).extract 0 k=⟨(l.take k).toArray⟩:=by
 apply ByteArray.ext
 simp[ByteArray.data_extract]
theorem kq (l:List UInt8) (k:Nat):(⟨l.toArray⟩:ByteArray).extract k l.length=⟨(l.drop k).toArray⟩:=by
 apply ByteArray.ext
 simp[ByteArray.data_extract];rw[List.take_of_length_le (by simp)]
theorem uK (cs:List Cls) (gs:List Sig) (b:Bod) (x:Ins):(bA cs gs b x).length≤2:=by
 unfold bA
 repeat' split
 all_goals simp
theorem uL {cs:List Cls} {st wa:List UInt8} (h:cr cs st wa=true):wa.length≤st.length:=by
 unfold cr at h;simp at h;exact h.1
theorem ze (bd:Bod) (ak:Option Addr) (n capk:Nat) (x:Ins) (st lo:List UInt8) (w:World): ∃W,(((w.alloc (.cells #[.int .i64 bd.cls,.int .i64 bd.meth,.string ⟨bd.locals.toArray⟩,.slice ak n capk,.slice none 0 0] 52)).alloc (.cells #[.int .u8 x.op.toNat,.int .i64 x.a,.int .i64 x.b,.int .i64 x.pos] 144)).alloc (.cells #[.bool true,.string ⟨st.toArray⟩,.string ⟨lo.toArray⟩] 91)).alloc (.cells #[.bool false,.string ⟨#[]⟩,.string ⟨#[]⟩] 91)=W∧But (fun _=>False) w W∧W.heap[w.heap.size+3]?=some (.cells #[.bool false,.string ⟨#[]⟩,.string ⟨#[]⟩] 91)∧W.heap[w.heap.size+2]?=some (.cells #[.bool true,.string ⟨st.toArray⟩,.string ⟨lo.toArray⟩] 91)∧W.heap[w.heap.size+1]?=some (.cells #[.int .u8 x.op.toNat,.int .i64 x.a,.int .i64 x.b,.int .i64 x.pos] 144)∧W.heap[w.heap.size]?=some (.cells #[.int .i64 bd.cls,.int .i64 bd.meth,.string ⟨bd.locals.toArray⟩,.slice ak n capk,.slice none 0 0] 52):=by
 have a1: ∀(W:World) o,But (fun _=>False) W (W.alloc o):=fun _ _=>But.alloc _ _ _
 exact⟨_,rfl,(((a1 _ _).trans (a1 _ _)).trans (a1 _ _)).trans (a1 _ _),CB (by simp) _,(a1 _ _).kp (CB (by simp) _),(a1 _ _).kp ((a1 _ _).kp (CB (by simp) _)),(a1 _ _).kp ((a1 _ _).kp ((a1 _ _).kp (heap_alloc_new _ _)))⟩
theorem uM (bi:Nat) (im:Img) (bd:Bod) (ak:Option Addr) (n capk:Nat) (x:Ins) (st lo:List UInt8) (w:World) (hI:dk w bi im) (hW:WfI im) (hbd:WfB im.classes im.sigs bd) (hx:WfX im.classes im.sigs.length bd.locals.length x) (hst: ∀c∈st,okT im.classes.length c=true) (hsl:st.length≤200000000) (hll:lo.length=bd.locals.length) (hv:x.op.toNat≠115∧x.op.toNat≠100∧x.op.toNat≠101∧x.op.toNat≠120∧x.op.toNat≠108):
  Calls Tryz.prog 84 #[.pointer (some ⟨bi,0,none⟩),.agg #[.int .i64 bd.cls,.int .i64 bd.meth,.string ⟨bd.locals.toArray⟩,.slice ak n capk,.slice none 0 0],.agg #[.int .u8 x.op.toNat,.int .i64 x.a,.int .i64 x.b,.int .i64 x.pos],.agg #[.bool true,.string ⟨st.toArray⟩,.string ⟨lo.toArray⟩]] w fun en w'=>en= .returned (uJ (df im.classes im.sigs bd x st lo) st lo)∧But (fun _=>False) w w':=by
 obtain⟨R,e6⟩: ∃R,df im.classes im.sigs bd x st lo=R:=⟨_,rfl⟩;rw[e6];have e8:Hid (df im.classes im.sigs bd x st lo=R):=e6;clear e6;have g5:lo.length≤5:=by have:=hbd.loc.1;omega
 have h3:=tf x.op.toNat 115 (by omega);have h0:=tf x.op.toNat 100 (by omega);have h1:=tf x.op.toNat 101 (by omega);have h4:=tf x.op.toNat 120 (by omega);have h2:=tf x.op.toNat 108 (by omega);have a4:R=if cr im.classes st (bA im.classes im.sigs bd x)=true then some (st.take (st.length-(bA im.classes im.sigs bd x).length)++bC im.classes im.sigs x,lo)else none:=by rw[←e8.out,df,if_neg (by omega),if_neg (by omega)]
 have h5:=uK im.classes im.sigs bd x;have h7:=jm im.classes im.sigs x;have c7:=fun w (h:dk w bi im)=>xp bi im bd ak n capk x w h hW hbd hx trivial
 have a3:=fun w (h:dk w bi im)=>mF bi im bd.locals.length x w h hW hx trivial
 generalize bA im.classes im.sigs bd x=P at*;generalize bC im.classes im.sigs x=U at*;have f6:Hid (R=if cr im.classes st P=true then some (st.take (st.length-P.length)++U,lo)else none):=a4;have e3:=hid c7;have b1:=hid a3;clear a4 hv e8 hll c7 a3
 go_in
 go_wp2_with fail;obtain⟨W,f5,f2,a0,a1,a2,b0⟩:=ze bd ak n capk x st lo w;rw[f5];clear f5;refine(e3.out _ (hI.but f2)).mono ?_;rintro en w1 ⟨rfl,b2⟩;replace a0:=b2.kp a0;replace a1:=b2.kp a1;replace a2:=b2.kp a2;replace b0:=b2.kp b0;have b5:=f2.trans b2;have e2:=ce0 a1;have a7:=ce1 a1;have a8:=ce2 a1;go_wp2_with fail;refine(mD bi im.classes st P _ (hI.but b5).cls hW.cls hW.nc hst (by omega) (by omega)).mono ?_;rintro en w2 ⟨rfl,b3⟩;clear e2 a7 a8;replace a0:=b3.kp a0;replace a1:=b3.kp a1;replace a2:=b3.kp a2;replace b0:=b3.kp b0;have a5:=b5.trans b3;have f7:=ce0 a2;have f8:=ce1 a2;have g0:=ce2 a2
 have g1:=ce3 a2;have e2:=ce0 a1;have a7:=ce1 a1;have a8:=ce2 a1;have d6:=ce0 a0;have e9:w2.frozen? ⟨w.heap.size+3,0,none⟩=false:=frozen_of_row w2 _ 0 _ _ a0;have e0:=ce1 a0;have f0:w2.frozen? ⟨w.heap.size+3,1,none⟩=false:=frozen_of_row w2 _ 1 _ _ a0;have e1:=ce2 a0;have f1:w2.frozen? ⟨w.heap.size+3,2,none⟩=false:=frozen_of_row w2 _ 2 _ _ a0;have f3:Hid (∀q,cr im.classes st P=q→R=if q=true then some (st.take (st.length-P.length)++U,lo)else none):=fun q hq=>by rw[f6.out,hq]
 have e5:cr im.classes st P=true→P.length≤st.length:=uL
 cases hq:cr im.classes st P with
 |false=>
  have a6:R=none:=by have:=f3.out _ hq;simpa using this
  subst a6;clear hq e5;go_wp2_with fail;refine bodyPost_ret (v:= .tuple #[.agg #[.bool true,.string ⟨st.toArray⟩,.string ⟨lo.toArray⟩],.bool false]) (by simp[results,Tryz.results84,go_sem,d6,e0,e1]) rfl ⟨rfl,?_⟩;exact((a5.next (But.setB _ _ _ _) (fun k hk h=>by omega)).next (But.setB _ _ _ _) (fun k hk h=>by omega)).next (But.setB _ _ _ _) (fun k hk h=>by omega)
 |true=>
  have a6:R=some (st.take (st.length-P.length)++U,lo):=by have:=f3.out _ hq;simpa using this
  have h6:=e5 hq;subst a6;clear hq e5;go_wp2_with fail;refine(b1.out _ (hI.but a5)).mono ?_;rintro en w3 ⟨rfl,b4⟩;clear f7 f8 g0 g1 e2 a7 a8 d6 e0 e1 e9 f0 f1;replace a0:=b4.kp a0;replace a1:=b4.kp a1;replace a2:=b4.kp a2;replace b0:=b4.kp b0;have e4:=a5.trans b4;have e2:=ce0 a1;have a7:=ce1 a1;have a8:=ce2 a1;have d6:=ce0 a0;have e9:w3.frozen? ⟨w.heap.size+3,0,none⟩=false:=frozen_of_row w3 _ 0 _ _ a0;have e0:=ce1 a0;have f0:w3.frozen? ⟨w.heap.size+3,1,none⟩=false:=frozen_of_row w3 _ 1 _ _ a0;have e1:=ce2 a0;have f1:w3.frozen? ⟨w.heap.size+3,2,none⟩=false:=frozen_of_row w3 _ 2 _ _ a0;have g2:(P.length:Int)≤(st.length:Int):=by omega
  have g3:(0:Int)≤(st.length:Int)-(P.length:Int):=by omega
  have g4:(st.length:Int)-(P.length:Int)≤(st.length:Int):=by omega
  have g7:=dj ((st.length:Int)-(P.length:Int)) (by omega) (by omega);have lS:=ae a1;go_wp2_with fail;have f4:But (fun _=>False) w3 w3.drew:=But.drew _ _;refine aB (But (fun _=>False) w3) 12 (by kernel_rfl) ?_
  iterate 7 (refine aG (v:=?_) rfl (by kernel_rfl) (fun _ _ _ h=>h) rfl f4 ?_ ?_;rotate_left;(focus (intro wS h;have q0:=(h.kc a7 lS);have q1:=(h.kc a8 lS);clear h;go_simp;try rfl));dsimp only[Act.put];try simp only[aK])
  have b6:(⟨st.toArray⟩:ByteArray).extract 0 (st.length-P.length)=⟨(st.take (st.length-P.length)).toArray⟩:=fm _ _;have g6:(⟨(st.take (st.length-P.length)).toArray⟩:ByteArray).size+(⟨U.toArray⟩:ByteArray).size≤300000000:=by show(st.take (st.length-P.length)).toArray.size+U.toArray.size≤300000000;simp;omega
  rw[b6];have e7: ¬9223372036854775807<st.length-P.length+U.length:=by omega
  iterate 5 (refine aG (v:=?_) rfl (by kernel_rfl) (fun _ _ _ h=>h) rfl f4 ?_ ?_;rotate_left;(focus (intro wS h;have q0:=(h.kc a7 lS);have q1:=(h.kc a8 lS);clear h;go_simp;try rfl));dsimp only[Act.put];try simp only[aK])
  clear e7 g6 b6 g7 g3 g4 g2;refine fx rfl (by kernel_rfl) ?_;go_wp2_with fail;refine bodyPost_ret (v:= .tuple #[.agg #[.bool true,.string ⟨(st.take (st.length-P.length)++U).toArray⟩,.string ⟨lo.toArray⟩],.bool true]) ?_ rfl ⟨rfl,?_⟩
  ·rw[←cF];simp[results,Tryz.results84,go_sem,d6,e0,e1]
  ·exact(((e4.next (But.setB _ _ _ _) (fun k hk h=>by omega)).next (But.setB _ _ _ _) (fun k hk h=>by omega)).next (But.setB _ _ _ _) (fun k hk h=>by omega)).trans (But.drew _ _)
theorem A0 (bi:Nat) (im:Img) (bd:Bod) (ak:Option Addr) (n capk:Nat) (x:Ins) (st lo:List UInt8) (w:World) (hI:dk w bi im) (hW:WfI im) (hbd:WfB im.classes im.sigs bd) (hx:WfX im.classes im.sigs.length bd.locals.length x) (hst: ∀c∈st,okT im.classes.length c=true) (hsl:st.length≤200000000) (hll:lo.length=bd.locals.length) (hv:x.op.toNat=108):
  Calls Tryz.prog 84 #[.pointer (some ⟨bi,0,none⟩),.agg #[.int .i64 bd.cls,.int .i64 bd.meth,.string ⟨bd.locals.toArray⟩,.slice ak n capk,.slice none 0 0],.agg #[.int .u8 x.op.toNat,.int .i64 x.a,.int .i64 x.b,.int .i64 x.pos],.agg #[.bool true,.string ⟨st.toArray⟩,.string ⟨lo.toArray⟩]] w fun en w'=>en= .returned (uJ (df im.classes im.sigs bd x st lo) st lo)∧But (fun _=>False) w w':=by
 obtain⟨R,a6⟩: ∃R,df im.classes im.sigs bd x st lo=R:=⟨_,rfl⟩;rw[a6];have b2:Hid (df im.classes im.sigs bd x st lo=R):=a6;clear a6;have e7:lo.length≤5:=by have:=hbd.loc.1;omega
 have f3:=tf x.op.toNat 115 (by omega);have f0:=tf x.op.toNat 100 (by omega);have f1:=tf x.op.toNat 101 (by omega);have f4:=tf x.op.toNat 120 (by omega);have f2:((x.op.toNat:Int)==108)=true:=by rw[beq_iff_eq];omega
 have hb:x.b<lo.length:=by rw[hll];exact hx.loc (by omega)
 have g3:(x.b:Int)<(lo.length:Int):=by omega
 have a0:R=if(lo.getD x.b 0).toNat=45 then none else some (st++ [lo.getD x.b 0],lo):=by rw[←b2.out,df,if_neg (by omega),if_pos hv]
 have a8:=dI lo _ hb;have g5: ∀h,(⟨lo.toArray⟩:ByteArray)[x.b]'h=lo.getD x.b 0:=fun h=>by rw[a8];exact mC lo _ hb _
 have a3:(⟨lo.toArray⟩:ByteArray).extract x.b (x.b+1)=⟨#[lo.getD x.b 0]⟩:=by rw[mE lo x.b hb,a8]
 clear a8;generalize lo.getD x.b 0=C at*;have b3:Hid (R=if C.toNat=45 then none else some (st++ [C],lo)):=a0;have d6:Hid ((⟨lo.toArray⟩:ByteArray).extract x.b (x.b+1)=⟨#[C]⟩):=a3;clear a0 hv b2 hll a3
 by_cases h45:C.toNat=45
 ·have a1:R=none:=by rw[b3.out,if_pos h45]
  subst a1;have tc:((C.toNat:Int)==45)=true:=by rw[beq_iff_eq];omega
  clear h45
  go_in
  go_wp2_with fail;refine bodyPost_ret (v:= .tuple #[.agg #[.bool true,.string ⟨st.toArray⟩,.string ⟨lo.toArray⟩],.bool false]) (by simp[results,Tryz.results84,go_sem]) rfl ⟨rfl,?_⟩;exact(((But.alloc _ _ _).trans (But.alloc _ _ _)).trans (But.alloc _ _ _)).trans (But.alloc _ _ _)
 ·have a1:R=some (st++ [C],lo):=by rw[b3.out,if_neg h45]
  subst a1;have tc:=tf C.toNat 45 (by omega);clear h45
  go_in
  go_wp2_with fail;obtain⟨W,c7,e4,a2,a5,a4,g4⟩:=ze bd ak n capk x st lo w;rw[c7];clear c7;have f5:=ce0 a4;have f6:=ce1 a4;have e0:=ce2 a4;have f7:=ce3 a4;have f8:=ce0 a5;have b4:=ce1 a5;have b5:=ce2 a5;have e1:=ce0 a2;have g0:W.frozen? ⟨w.heap.size+3,0,none⟩=false:=frozen_of_row W _ 0 _ _ a2;have e2:=ce1 a2;have g1:W.frozen? ⟨w.heap.size+3,1,none⟩=false:=frozen_of_row W _ 1 _ _ a2;have e3:=ce2 a2;have g2:W.frozen? ⟨w.heap.size+3,2,none⟩=false:=frozen_of_row W _ 2 _ _ a2;have lS:=ae a5;have lI:=ae a4;have e8:=hx.num;have e9:=dj ((x.b:Int)+1) (by omega) (by omega);have e6:(x.b:Int)≤(x.b:Int)+1:=by omega
  have b0:(0:Int)≤(x.b:Int)+1:=by omega
  have b1:(x.b:Int)+1≤(lo.length:Int):=by omega
  have b6:But (fun _=>False) W W.drew:=But.drew _ _;refine aB (But (fun _=>False) W) 14 (by kernel_rfl) ?_
  iterate 10 (refine aG (v:=?_) rfl (by kernel_rfl) (fun _ _ _ h=>h) rfl b6 ?_ ?_;rotate_left;(focus (intro wS h;have q0:=(h.kc b4 lS);have q1:=(h.kc b5 lS);have q2:=(h.kc e0 lI);clear h;go_simp;try rfl));dsimp only[Act.put];try simp only[aK])
  rw[d6.out];clear e9 e6 b0 b1;have a7: ¬9223372036854775807<st.length+1:=by omega
  have e5:(⟨#[C]⟩:ByteArray).size=1:=rfl
  iterate 4 (refine aG (v:=?_) rfl (by kernel_rfl) (fun _ _ _ h=>h) rfl b6 ?_ ?_;rotate_left;(focus (intro wS h;have q0:=(h.kc b4 lS);have q1:=(h.kc b5 lS);clear h;go_simp;try rfl));dsimp only[Act.put];try simp only[aK])
  clear a7 e5;refine fx rfl (by kernel_rfl) ?_;go_wp2_with fail;refine bodyPost_ret (v:= .tuple #[.agg #[.bool true,.string ⟨(st++ [C]).toArray⟩,.string ⟨lo.toArray⟩],.bool true]) ?_ rfl ⟨rfl,?_⟩
  ·rw[←fE];simp[results,Tryz.results84,go_sem,e1,e2,e3]
  ·exact(((e4.next (But.setB _ _ _ _) (fun k hk h=>by omega)).next (But.setB _ _ _ _) (fun k hk h=>by omega)).next (But.setB _ _ _ _) (fun k hk h=>by omega)).trans (But.drew _ _)
theorem uN (lo st:List UInt8) (b:Nat) (hb:b<lo.length) (hs:0<st.length):
  ((⟨lo.toArray⟩:ByteArray).extract 0 b++(⟨st.toArray⟩:ByteArray).extract (st.length-1) st.length)++(⟨lo.toArray⟩:ByteArray).extract (b+1) lo.length=⟨(lo.set b (st.getD (st.length-1) 0)).toArray⟩:=by
 rw[fm,kq,kq,cF,cF]
 congr 2
 have h1:st.drop (st.length-1)=[st.getD (st.length-1) 0]:=by
  rw[dI st _ (by omega)];rw[List.drop_eq_getElem_cons (by omega)];rw[List.drop_eq_nil_of_le (by omega)]
 rw[h1,List.set_eq_take_append_cons_drop,if_pos hb];simp
theorem ox {c:Nat} {st:List UInt8} {k:Nat} (h:cP c st=some k):k≤st.length∧1≤k:=by
 unfold cP at h
 split at h
 ·split at h
  ·cases h
  ·rename_i h1;cases h;omega
 ·split at h
  ·cases h
  ·rename_i h1;cases h;omega
theorem zf (bi:Nat) (im:Img) (bd:Bod) (ak:Option Addr) (n capk:Nat) (x:Ins) (st lo:List UInt8) (w:World) (hI:dk w bi im) (hW:WfI im) (hbd:WfB im.classes im.sigs bd) (hx:WfX im.classes im.sigs.length bd.locals.length x) (hst: ∀c∈st,okT im.classes.length c=true) (hsl:st.length≤200000000) (hll:lo.length=bd.locals.length) (hv:x.op.toNat=115):
  Calls Tryz.prog 84 #[.pointer (some ⟨bi,0,none⟩),.agg #[.int .i64 bd.cls,.int .i64 bd.meth,.string ⟨bd.locals.toArray⟩,.slice ak n capk,.slice none 0 0],.agg #[.int .u8 x.op.toNat,.int .i64 x.a,.int .i64 x.b,.int .i64 x.pos],.agg #[.bool true,.string ⟨st.toArray⟩,.string ⟨lo.toArray⟩]] w fun en w'=>en= .returned (uJ (df im.classes im.sigs bd x st lo) st lo)∧But (fun _=>False) w w':=by
 obtain⟨R,f4⟩: ∃R,df im.classes im.sigs bd x st lo=R:=⟨_,rfl⟩;rw[f4];have g4:Hid (df im.classes im.sigs bd x st lo=R):=f4;clear f4;have i2:lo.length≤5:=by have:=hbd.loc.1;omega
 have j0:((x.op.toNat:Int)==115)=true:=by rw[beq_iff_eq];omega
 have hb:x.b<lo.length:=by rw[hll];exact hx.loc (by omega)
 have j3:(x.b:Int)<(lo.length:Int):=by omega
 have a3:R=match cP x.op.toNat st with|none=>none|some k=>some (st.take (st.length-k)++bC im.classes im.sigs x,lo.set x.b (st.getD (st.length-1) 0)):=by rw[←g4.out,df,if_pos (by omega)];cases cP x.op.toNat st<;>simp[hv]
 have j2:=jm im.classes im.sigs x;have b0:=fun w (h:dk w bi im)=>mF bi im bd.locals.length x w h hW hx trivial
 generalize bC im.classes im.sigs x=U at*;obtain⟨a4,b4⟩: ∃a4,lo.set x.b (st.getD (st.length-1) 0)=a4:=⟨_,rfl⟩;rw[b4]at a3;have h1:Hid (lo.set x.b (st.getD (st.length-1) 0)=a4):=b4;clear b4;have f0:Hid (R=match cP x.op.toNat st with|none=>none|some k=>some (st.take (st.length-k)++U,a4)):=a3;have c7:=hid b0;clear a3 hv g4 hll b0
 go_in
 go_wp2_with fail;obtain⟨W,h0,h2,a1,a2,a0,a5⟩:=ze bd ak n capk x st lo w;rw[h0];clear h0;refine(ow x st _ (by omega)).mono ?_;rintro en w1 ⟨rfl,e1⟩;replace a1:=e1.kp a1;replace a2:=e1.kp a2;replace a0:=e1.kp a0;replace a5:=e1.kp a5;have e4:=h2.trans e1;have b1:=ce0 a0;have b2:=ce1 a0;have a7:=ce2 a0;have b3:=ce3 a0;have f1:=ce0 a2;have d6:=ce1 a2;have e0:=ce2 a2;have e7:=ce0 a1;have g5:w1.frozen? ⟨w.heap.size+3,0,none⟩=false:=frozen_of_row w1 _ 0 _ _ a1;have e8:=ce1 a1;have g6:w1.frozen? ⟨w.heap.size+3,1,none⟩=false:=frozen_of_row w1 _ 1 _ _ a1;have e9:=ce2 a1;have g7:w1.frozen? ⟨w.heap.size+3,2,none⟩=false:=frozen_of_row w1 _ 2 _ _ a1
 have lS:=ae a2;have lI:=ae a0;have lR:=ae a1;have g0:= @ox x.op.toNat st
 cases hq:cP x.op.toNat st with
 |none=>
  have b5:R=none:=by rw[f0.out,hq]
  subst b5;simp only[qY];clear hq g0;go_wp2_with fail;refine bodyPost_ret (v:= .tuple #[.agg #[.bool true,.string ⟨st.toArray⟩,.string ⟨lo.toArray⟩],.bool false]) (by simp[results,Tryz.results84,go_sem,e7,e8,e9]) rfl ⟨rfl,?_⟩;exact((e4.next (But.setB _ _ _ _) (fun k hk h=>by omega)).next (But.setB _ _ _ _) (fun k hk h=>by omega)).next (But.setB _ _ _ _) (fun k hk h=>by omega)
 |some k=>
  have b5:R=some (st.take (st.length-k)++U,a4):=by rw[f0.out,hq]
  subst b5;obtain⟨j7,j5⟩:=g0 hq;simp only[qY];clear hq g0 f0;have j4:(0:Int)≤(k:Int):=by omega
  go_wp2_with fail;have h8:(0:Int)≤(st.length:Int)-(k:Int):=by omega
  have h9:(st.length:Int)-(k:Int)≤(st.length:Int):=by omega
  have i0:(k:Int)≤(st.length:Int):=by omega
  have g2:=dj ((st.length:Int)-(k:Int)) (by omega) (by omega);have h3:But (fun _=>False) w1 w1.drew:=But.drew _ _;refine aB (But (fun _=>False) w1) 10 (by kernel_rfl) ?_
  iterate 9 (refine aG (v:=?_) rfl (by kernel_rfl) (fun _ _ _ h=>h) rfl h3 ?_ ?_;rotate_left;(focus (intro wS h;have q0:=(h.kc d6 lS);have q1:=(h.kc e0 lS);clear h;go_simp;try rfl));dsimp only[Act.put];try simp only[aK])
  have e5:(⟨st.toArray⟩:ByteArray).extract 0 (st.length-k)=⟨(st.take (st.length-k)).toArray⟩:=fm _ _;rw[e5];clear e5 g2 h8 h9 i0;refine ag rfl (by kernel_rfl) ?_;intro KS hKS;go_simp;refine hKS.out _ _ (fun _=>(But.alloc _ _ _).trans (But.drew _ _)) ?_;clear hKS KS;refine ag rfl (by kernel_rfl) ?_;intro KS hKS;go_simp;refine hKS.out _ _ nofun ?_;clear hKS KS;refine aF rfl (by kernel_rfl) ?_;clear b1 b2 a7 b3 f1 d6 e0 e7 e8 e9 g5 g6 g7;have e2:But (fun _=>False) w1 (w1.alloc (.cells #[.bool true,.string ⟨(st.take (st.length-k)).toArray⟩,.string ⟨lo.toArray⟩] 91)).drew:=(But.alloc _ _ _).trans (But.drew _ _)
  have a6:(w1.alloc (.cells #[.bool true,.string ⟨(st.take (st.length-k)).toArray⟩,.string ⟨lo.toArray⟩] 91)).drew.heap[w1.heap.size]?=some (.cells #[.bool true,.string ⟨(st.take (st.length-k)).toArray⟩,.string ⟨lo.toArray⟩] 91):=heap_alloc_new w1 _;replace a1:=e2.kp a1;replace a2:=e2.kp a2;replace a0:=e2.kp a0;replace a5:=e2.kp a5;have f2:=e4.trans e2;generalize (w1.alloc (.cells #[.bool true,.string ⟨(st.take (st.length-k)).toArray⟩,.string ⟨lo.toArray⟩] 91)).drew=w2 at*;obtain⟨gT,e6⟩: ∃gT,w1.heap.size=gT:=⟨_,rfl⟩;rw[e6]at a6⊢;have j1:w.heap.size+3<gT:=by omega
  clear e6;have b1:=ce0 a0;have b2:=ce1 a0;have a7:=ce2 a0;have b3:=ce3 a0;have k0:(1:Int)≤(st.length:Int):=by omega
  go_wp2_with fail;clear b1 b2 a7 b3;have b1:=ce0 a0;have b2:=ce1 a0;have a7:=ce2 a0;have b3:=ce3 a0;have f1:=ce0 a2;have d6:=ce1 a2;have e0:=ce2 a2;replace lS:=ae a2;replace lI:=ae a0;have i7:=hx.num;have g2:=dj ((x.b:Int)+1) (by omega) (by omega);have g3:=dj ((st.length:Int)-1) (by omega) (by omega);have i3:(0:Int)≤(st.length:Int)-1:=by omega
  have i4:(st.length:Int)-1≤(st.length:Int):=by omega
  have i1:(x.b:Int)≤(lo.length:Int):=by omega
  have f7:(0:Int)≤(x.b:Int)+1:=by omega
  have f8:(x.b:Int)+1≤(lo.length:Int):=by omega
  have h5: ¬9223372036854775807<min x.b lo.length+(st.length-(st.length-1)):=by omega
  have h6: ¬9223372036854775807<min x.b lo.length+(st.length-(st.length-1))+(lo.length-(x.b+1)):=by omega
  have h7: ¬9223372036854775807<x.b+1:=by omega
  have h4:But (fun _=>False) w2 w2.drew:=But.drew _ _;refine aB (But (fun _=>False) w2) 19 (by kernel_rfl) ?_
  iterate 19 (refine aG (v:=?_) rfl (by kernel_rfl) (fun _ _ _ h=>h) rfl h4 ?_ ?_;rotate_left;(focus (intro wS h;have q0:=(h.kc d6 lS);have q1:=(h.kc e0 lS);have q2:=(h.kc a7 lI);clear h;go_simp;try rfl));dsimp only[Act.put];try simp only[aK])
  have g1:=uN lo st x.b hb (by omega);rw[h1.out]at g1;rw[g1];clear g1 g2 g3 i3 i4 i1 f7 f8 h5 h6 h7;have T2:=ce2 a6;have F2:w2.frozen? ⟨gT,2,none⟩=false:=frozen_of_row w2 _ 2 _ _ a6;refine ag rfl (by kernel_rfl) ?_;intro KS hKS;go_simp;refine hKS.out _ _ nofun ?_;clear hKS KS T2 F2;refine aF rfl (by kernel_rfl) ?_;clear b1 b2 a7 b3 f1 d6 e0;have e3:But (· =gT) w2 (w2.setCell ⟨gT,2,none⟩ (.string ⟨a4.toArray⟩)).drew:=(But.setB _ _ _ _).next (But.drew (fun _=>False) _) (fun _ _ h=>h.elim);have f6:(w2.setCell ⟨gT,2,none⟩ (.string ⟨a4.toArray⟩)).drew.heap[gT]?=some (.cells #[.bool true,.string ⟨(st.take (st.length-k)).toArray⟩,.string ⟨a4.toArray⟩] 91):=heap_setCell_same w2 _ 2 _ _ _ a6
  replace a1:=(e3.block _ (ae a1) (by omega)).trans a1;replace a2:=(e3.block _ (ae a2) (by omega)).trans a2;replace a0:=(e3.block _ (ae a0) (by omega)).trans a0;replace a5:=(e3.block _ (ae a5) (by omega)).trans a5;have a8:=f2.next e3 (fun k hk h=>by omega);generalize (w2.setCell ⟨gT,2,none⟩ (.string ⟨a4.toArray⟩)).drew=w2c at*;have b1:=ce0 a0;have b2:=ce1 a0;have a7:=ce2 a0;have b3:=ce3 a0;go_wp2_with fail;refine(c7.out _ (hI.but a8)).mono ?_;rintro en w3 ⟨rfl,b6⟩;clear b1 b2 a7 b3;replace a6:=b6.kp f6;replace a1:=b6.kp a1;replace a2:=b6.kp a2;replace a0:=b6.kp a0;replace a5:=b6.kp a5;have f3:=a8.trans b6
  have e7:=ce0 a1;have g5:w3.frozen? ⟨w.heap.size+3,0,none⟩=false:=frozen_of_row w3 _ 0 _ _ a1;have e8:=ce1 a1;have g6:w3.frozen? ⟨w.heap.size+3,1,none⟩=false:=frozen_of_row w3 _ 1 _ _ a1;have e9:=ce2 a1;have g7:w3.frozen? ⟨w.heap.size+3,2,none⟩=false:=frozen_of_row w3 _ 2 _ _ a1;have T0:=ce0 a6;have T1:=ce1 a6;have T2:=ce2 a6;have F1:w3.frozen? ⟨gT,1,none⟩=false:=frozen_of_row w3 _ 1 _ _ a6;have f5: ¬9223372036854775807<st.length-k+U.length:=by omega
  have i5:gT≠w.heap.size+3:=by omega
  have i6:w.heap.size+3≠gT:=by omega
  go_wp2_with fail;clear f5;refine bodyPost_ret (v:= .tuple #[.agg #[.bool true,.string ⟨(st.take (st.length-k)++U).toArray⟩,.string ⟨a4.toArray⟩],.bool true]) ?_ rfl ⟨rfl,?_⟩
  ·rw[←cF];simp[results,Tryz.results84,go_sem,e7,e8,e9]
  ·exact(((f3.next (But.setB _ _ _ _) (fun k hk h=>by omega)).next (But.setB _ _ _ _) (fun k hk h=>by omega)).next (But.setB _ _ _ _) (fun k hk h=>by omega)).next (But.setB _ _ _ _) (fun k hk h=>by omega)
theorem Al (bi:Nat) (im:Img) (bd:Bod) (ak:Option Addr) (n capk:Nat) (x:Ins) (st lo:List UInt8) (w:World) (hI:dk w bi im) (hW:WfI im) (hbd:WfB im.classes im.sigs bd) (hx:WfX im.classes im.sigs.length bd.locals.length x) (hst: ∀c∈st,okT im.classes.length c=true) (hsl:st.length≤200000000) (hll:lo.length=bd.locals.length) (hv:x.op.toNat=100∨x.op.toNat=101∨x.op.toNat=120):
  Calls Tryz.prog 84 #[.pointer (some ⟨bi,0,none⟩),.agg #[.int .i64 bd.cls,.int .i64 bd.meth,.string ⟨bd.locals.toArray⟩,.slice ak n capk,.slice none 0 0],.agg #[.int .u8 x.op.toNat,.int .i64 x.a,.int .i64 x.b,.int .i64 x.pos],.agg #[.bool true,.string ⟨st.toArray⟩,.string ⟨lo.toArray⟩]] w fun en w'=>en= .returned (uJ (df im.classes im.sigs bd x st lo) st lo)∧But (fun _=>False) w w':=by
 obtain⟨R,f0⟩: ∃R,df im.classes im.sigs bd x st lo=R:=⟨_,rfl⟩;rw[f0];have f6:Hid (df im.classes im.sigs bd x st lo=R):=f0;clear f0;have h2:lo.length≤5:=by have:=hbd.loc.1;omega
 have h7:=tf x.op.toNat 115 (by omega);obtain⟨b1,f3⟩: ∃b,((x.op.toNat:Int)==100)=b:=⟨_,rfl⟩;obtain⟨b2,f4⟩: ∃b,((x.op.toNat:Int)==101)=b:=⟨_,rfl⟩;obtain⟨b3,f5⟩: ∃b,((x.op.toNat:Int)==120)=b:=⟨_,rfl⟩
 have hb:b1=true∨(b1=false∧b2=true)∨(b1=false∧b2=false∧b3=true):=by
  rw[←f3,←f4,←f5];simp only[beq_iff_eq,beq_eq_false_iff_ne];omega
 have h5:x.op.toNat≠115:=by omega
 have a4:R=match cP x.op.toNat st with|none=>none|some k=>some (st.take (st.length-k)++bC im.classes im.sigs x,lo):=by rw[←f6.out,df,if_pos (by omega)];cases cP x.op.toNat st<;>simp[h5]
 have h9:=jm im.classes im.sigs x;have a3:=fun w (h:dk w bi im)=>mF bi im bd.locals.length x w h hW hx trivial
 generalize bC im.classes im.sigs x=U at*;have e4:Hid (R=match cP x.op.toNat st with|none=>none|some k=>some (st.take (st.length-k)++U,lo)):=a4;have b0:=hid a3;clear a4 hv f6 hll a3;rcases hb with rfl| ⟨rfl,rfl⟩ | ⟨rfl,rfl,rfl⟩
 all_goals
  go_in
  go_wp2_with fail;obtain⟨W,g3,g5,a0,a2,a1,a8⟩:=ze bd ak n capk x st lo w;rw[g3];clear g3;refine(ow x st _ (by omega)).mono ?_;rintro en w1 ⟨rfl,b4⟩;replace a0:=b4.kp a0;replace a2:=b4.kp a2;replace a1:=b4.kp a1;replace a8:=b4.kp a8;have b6:=g5.trans b4;have e5:=ce0 a1;have e6:=ce1 a1;have e7:=ce2 a1;have e8:=ce3 a1;have g4:=ce0 a2;have f7:=ce1 a2;have f8:=ce2 a2;have e1:=ce0 a0;have g0:w1.frozen? ⟨w.heap.size+3,0,none⟩=false:=frozen_of_row w1 _ 0 _ _ a0;have e2:=ce1 a0;have g1:w1.frozen? ⟨w.heap.size+3,1,none⟩=false:=frozen_of_row w1 _ 1 _ _ a0;have e3:=ce2 a0;have g2:w1.frozen? ⟨w.heap.size+3,2,none⟩=false:=frozen_of_row w1 _ 2 _ _ a0
  have lS:=ae a2;have lI:=ae a1;have lR:=ae a0;have f2:= @ox x.op.toNat st
  cases hq:cP x.op.toNat st with
  |none=>
   have a6:R=none:=by rw[e4.out,hq]
   subst a6;simp only[qY];clear hq f2;go_wp2_with fail;refine bodyPost_ret (v:= .tuple #[.agg #[.bool true,.string ⟨st.toArray⟩,.string ⟨lo.toArray⟩],.bool false]) (by simp[results,Tryz.results84,go_sem,e1,e2,e3]) rfl ⟨rfl,?_⟩;exact((b6.next (But.setB _ _ _ _) (fun k hk h=>by omega)).next (But.setB _ _ _ _) (fun k hk h=>by omega)).next (But.setB _ _ _ _) (fun k hk h=>by omega)
  |some k=>
   have a6:R=some (st.take (st.length-k)++U,lo):=by rw[e4.out,hq]
   subst a6;obtain⟨i2,i1⟩:=f2 hq;simp only[qY];clear hq f2 e4;have i0:(0:Int)≤(k:Int):=by omega
   go_wp2_with fail;have g7:(0:Int)≤(st.length:Int)-(k:Int):=by omega
   have h0:(st.length:Int)-(k:Int)≤(st.length:Int):=by omega
   have h1:(k:Int)≤(st.length:Int):=by omega
   have h6:=dj ((st.length:Int)-(k:Int)) (by omega) (by omega);have g6:But (fun _=>False) w1 w1.drew:=But.drew _ _;refine aB (But (fun _=>False) w1) 10 (by kernel_rfl) ?_
   iterate 9 (refine aG (v:=?_) rfl (by kernel_rfl) (fun _ _ _ h=>h) rfl g6 ?_ ?_;rotate_left;(focus (intro wS h;have q0:=(h.kc f7 lS);have q1:=(h.kc f8 lS);clear h;go_simp;try rfl));dsimp only[Act.put];try simp only[aK])
   have d6:(⟨st.toArray⟩:ByteArray).extract 0 (st.length-k)=⟨(st.take (st.length-k)).toArray⟩:=fm _ _;rw[d6];clear d6 h6 g7 h0 h1;refine ag rfl (by kernel_rfl) ?_;intro KS hKS;go_simp;refine hKS.out _ _ (fun _=>(But.alloc _ _ _).trans (But.drew _ _)) ?_;clear hKS KS;refine ag rfl (by kernel_rfl) ?_;intro KS hKS;go_simp;refine hKS.out _ _ nofun ?_;clear hKS KS;refine aF rfl (by kernel_rfl) ?_;clear e5 e6 e7 e8 g4 f7 f8 e1 e2 e3 g0 g1 g2;have b5:But (fun _=>False) w1 (w1.alloc (.cells #[.bool true,.string ⟨(st.take (st.length-k)).toArray⟩,.string ⟨lo.toArray⟩] 91)).drew:=(But.alloc _ _ _).trans (But.drew _ _)
   have a5:(w1.alloc (.cells #[.bool true,.string ⟨(st.take (st.length-k)).toArray⟩,.string ⟨lo.toArray⟩] 91)).drew.heap[w1.heap.size]?=some (.cells #[.bool true,.string ⟨(st.take (st.length-k)).toArray⟩,.string ⟨lo.toArray⟩] 91):=heap_alloc_new w1 _;replace a0:=b5.kp a0;replace a2:=b5.kp a2;replace a1:=b5.kp a1;replace a8:=b5.kp a8;have c7:=b6.trans b5;generalize (w1.alloc (.cells #[.bool true,.string ⟨(st.take (st.length-k)).toArray⟩,.string ⟨lo.toArray⟩] 91)).drew=w2 at*;obtain⟨gT,e0⟩: ∃gT,w1.heap.size=gT:=⟨_,rfl⟩;rw[e0]at a5⊢;have h8:w.heap.size+3<gT:=by omega
   clear e0;have e5:=ce0 a1;have e6:=ce1 a1;have e7:=ce2 a1;have e8:=ce3 a1;go_wp2_with fail;refine(b0.out _ (hI.but c7)).mono ?_;rintro en w3 ⟨rfl,a7⟩;clear e5 e6 e7 e8;replace a5:=a7.kp a5;replace a0:=a7.kp a0;replace a2:=a7.kp a2;replace a1:=a7.kp a1;replace a8:=a7.kp a8;have e9:=c7.trans a7;have e1:=ce0 a0;have g0:w3.frozen? ⟨w.heap.size+3,0,none⟩=false:=frozen_of_row w3 _ 0 _ _ a0;have e2:=ce1 a0;have g1:w3.frozen? ⟨w.heap.size+3,1,none⟩=false:=frozen_of_row w3 _ 1 _ _ a0;have e3:=ce2 a0;have g2:w3.frozen? ⟨w.heap.size+3,2,none⟩=false:=frozen_of_row w3 _ 2 _ _ a0;have T0:=ce0 a5;have T1:=ce1 a5
   have T2:=ce2 a5;have F1:w3.frozen? ⟨gT,1,none⟩=false:=frozen_of_row w3 _ 1 _ _ a5;have f1: ¬9223372036854775807<st.length-k+U.length:=by omega
   have h3:gT≠w.heap.size+3:=by omega
   have h4:w.heap.size+3≠gT:=by omega
   go_wp2_with fail;clear f1;refine bodyPost_ret (v:= .tuple #[.agg #[.bool true,.string ⟨(st.take (st.length-k)++U).toArray⟩,.string ⟨lo.toArray⟩],.bool true]) ?_ rfl ⟨rfl,?_⟩
   ·rw[←cF];simp[results,Tryz.results84,go_sem,e1,e2,e3]
   ·exact(((e9.next (But.setB _ _ _ _) (fun k hk h=>by omega)).next (But.setB _ _ _ _) (fun k hk h=>by omega)).next (But.setB _ _ _ _) (fun k hk h=>by omega)).next (But.setB _ _ _ _) (fun k hk h=>by omega)
theorem sQ (bi:Nat) (im:Img) (bd:Bod) (ak:Option Addr) (n capk:Nat) (x:Ins) (st lo:List UInt8) (w:World) (hI:dk w bi im) (hW:WfI im) (hbd:WfB im.classes im.sigs bd) (hx:WfX im.classes im.sigs.length bd.locals.length x) (hst: ∀c∈st,okT im.classes.length c=true) (hsl:st.length≤200000000) (hll:lo.length=bd.locals.length) (hdummy:True):
  Calls Tryz.prog 84 #[.pointer (some ⟨bi,0,none⟩),.agg #[.int .i64 bd.cls,.int .i64 bd.meth,.string ⟨bd.locals.toArray⟩,.slice ak n capk,.slice none 0 0],.agg #[.int .u8 x.op.toNat,.int .i64 x.a,.int .i64 x.b,.int .i64 x.pos],.agg #[.bool true,.string ⟨st.toArray⟩,.string ⟨lo.toArray⟩]] w fun en w'=>en= .returned (uJ (df im.classes im.sigs bd x st lo) st lo)∧But (fun _=>False) w w':=by
 by_cases h1:x.op.toNat=115
 ·exact zf bi im bd ak n capk x st lo w hI hW hbd hx hst hsl hll h1
 by_cases h2:x.op.toNat=100∨x.op.toNat=101∨x.op.toNat=120
 ·exact Al bi im bd ak n capk x st lo w hI hW hbd hx hst hsl hll h2
 by_cases h5:x.op.toNat=108
 ·exact A0 bi im bd ak n capk x st lo w hI hW hbd hx hst hsl hll h5
 exact uM bi im bd ak n capk x st lo w hI hW hbd hx hst hsl hll (by omega)
theorem xq (x:Ins) (i:Nat) (w:World) (hi:i≤1000):
  Calls Tryz.prog 85 #[.agg #[.int .u8 x.op.toNat,.int .i64 x.a,.int .i64 x.b,.int .i64 x.pos],.int .i64 i] w fun en w'=>en= .returned (.tuple #[.int .i64 (eg x i).1,.int .i64 (eg x i).2])∧But (fun _=>False) w w':=by
 obtain⟨R,a0⟩: ∃R,eg x i=R:=⟨_,rfl⟩;rw[a0];unfold eg at a0
 by_cases h1:x.op.toNat=116
 ·rw[if_pos h1]at a0;subst a0;have t1:((x.op.toNat:Int)==116)=true:=by rw[beq_iff_eq];omega
  clear h1
  go_in
  go_wp2
  go_ret2
  exact⟨rfl,But.alloc _ _ _⟩
 rw[if_neg h1]at a0;have t1:=tf x.op.toNat 116 (by omega)
 by_cases h2:x.op.toNat=106
 ·rw[if_pos h2]at a0;subst a0;have t2:((x.op.toNat:Int)==106)=true:=by rw[beq_iff_eq];omega
  clear h1 h2
  go_in
  go_wp2
  go_ret2
  exact⟨rfl,But.alloc _ _ _⟩
 rw[if_neg h2]at a0;have t2:=tf x.op.toNat 106 (by omega)
 by_cases h3:x.op.toNat=102
 ·rw[if_pos h3]at a0;subst a0;have t3:((x.op.toNat:Int)==102)=true:=by rw[beq_iff_eq];omega
  clear h1 h2 h3
  go_in
  go_wp2
  go_quiet (fail)
  go_wp2
  go_ret2
  exact⟨rfl,(But.alloc _ _ _).trans (But.drewN _ _ _)⟩
 ·rw[if_neg h3]at a0;subst a0;have t3:=tf x.op.toNat 102 (by omega);clear h1 h2 h3
  go_in
  go_wp2
  go_ret2
  exact⟨rfl,But.alloc _ _ _⟩
theorem uO (bd:Bod) (ak:Option Addr) (n capk:Nat) (w:World):
  Calls Tryz.prog 56 #[.agg #[.int .i64 bd.cls,.int .i64 bd.meth,.string ⟨bd.locals.toArray⟩,.slice ak n capk,.slice none 0 0]] w fun en w'=>en= .returned (.agg #[.bool true,.string ⟨#[]⟩,.string ⟨bd.locals.toArray⟩])∧But (fun _=>False) w w':=by
 go_in
 go_wp2
 refine bodyPost_ret (v:= .agg #[.bool true,.string ⟨#[]⟩,.string ⟨bd.locals.toArray⟩]) (by simp[results,Tryz.results56,go_sem]) rfl ⟨rfl,?_⟩;exact(But.alloc _ _ _).trans (But.alloc _ _ _)
def stV (o:Option (List UInt8×List UInt8)):Array Value:=match o with
 |none=>#[.bool false,.string ⟨#[]⟩,.string ⟨#[]⟩]
 |some (s,l)=>#[.bool true,.string ⟨s.toArray⟩,.string ⟨l.toArray⟩]
end
end Go.Proofs.YtpfkkmacakjmbaaGreatDoor
