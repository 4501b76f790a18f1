import Derived.Test.YtpfkkmacakjmbaaGreatDoorP09
set_option maxRecDepth 100000
set_option maxHeartbeats 6400000
set_option linter.unusedSimpArgs false
set_option linter.unusedVariables false
namespace Go.Proofs.YtpfkkmacakjmbaaGreatDoor
section
open Go Go.RowKit Sp
attribute [local go_sem ↓] Go.wp_at_zero Go.wp_at_succ
theorem qY (l:List UInt8) (k:Nat) (h:k<l.length):(⟨l.toArray⟩:ByteArray).extract k (k+1)=⟨#[l[k]]⟩:=by
 apply ByteArray.ext
 simp[ByteArray.data_extract];rw[List.take_one,List.head?_drop];simp[h]
theorem mU (bi:Nat) (im:Img) (nl:Nat) (x:Ins) (w:World) (hI:bT w bi im) (hW:WfI im) (hx:WfX im.classes im.sigs.length nl x) (hdummy:True):
  Calls Tryz.prog 136 #[.pointer (some ⟨bi,0,none⟩),.agg #[.int .u8 x.op.toNat,.int .i64 x.a,.int .i64 x.b,.int .i64 x.pos]] w fun en w'=>en= .returned (.string ⟨(aZ im.classes im.sigs x).toArray⟩)∧But (fun _=>False) w w':=by
 have a1:=hx.op;simp[bM]at a1;have e3:=hW.nc;obtain⟨W,a3⟩: ∃W,w.alloc (.cells #[.int .u8 x.op.toNat,.int .i64 x.a,.int .i64 x.b,.int .i64 x.pos] 144)=W:=⟨_,rfl⟩;have a2:But (fun _=>False) w W:=by rw[←a3];exact But.alloc _ _ _
 have a9:W.heap[w.heap.size]?=some (.cells #[.int .u8 x.op.toNat,.int .i64 x.a,.int .i64 x.b,.int .i64 x.pos] 144):=by rw[←a3];exact heap_alloc_new _ _
 have a4:W.heap.size=w.heap.size+1:=by rw[←a3];simp
 have i1:=cell_of_row W _ 1 _ _ (0,0) a9;have i2:=cell_of_row W _ 2 _ _ (0,0) a9;simp at i1 i2;have lI:=ae a9;have a6:=hI.but a2;have a0:=hid a3;have a7:But (fun _=>False) W W.drew:=But.drew _ _;clear a3 a9
 by_cases h103:x.op.toNat=103
 ·obtain⟨g,m,cap,fl,d0,hm,hc,b2,b1,lbi,lg⟩:=a6.cls.flds (hx.cls (by omega)) (hx.fld (by omega));rw[show aZ im.classes im.sigs x=[da im.classes x.a x.b]from by simp[aZ,h103,aL],h103];rw[h103,show((103:Nat):Int)=103 from rfl]at a0;have b5:(x.b:Int)<(fl.length:Int):=by omega
  have b9:(x.b:Int)+1≤(fl.length:Int):=by omega
  have e1:=hx.num;have e2:=bH ((x.b:Int)+1) (by omega) (by omega);have e0:(x.b:Int)≤(x.b:Int)+1:=by omega
  have b0:(0:Int)≤(x.b:Int)+1:=by omega
  have b3:Hid ((⟨fl.toArray⟩:ByteArray).extract x.b (x.b+1)=⟨#[da im.classes x.a x.b]⟩):=by show _=_;rw[qY fl x.b b2,←dj fl _ b2,b1]
  generalize da im.classes x.a x.b=E at*;clear a1 h103 b1 a4
  go_in
  go_wp2_with fail;rw[a0.out];refine az (But (fun _=>False) W) 15 (by kernel_rfl) ?_
  iterate 15 (refine aB (v:=?_) rfl (by kernel_rfl) (fun _ _ _ h=>h) rfl a7 ?_ ?_;rotate_left;(focus (intro wS h;have q0:=(h.kc i1 lI);have q1:=(h.kc i2 lI);have q2:=(h.kc d0 lbi);have q3:=(h.kc hc lg);clear h;go_simp;try rfl));dsimp only[Act.put];try simp only[aR])
  clear e2 e0 b0;refine ag rfl (by kernel_rfl) ?_;intro KS hKS;go_simp;refine hKS.out _ _ nofun ?_;clear hKS KS;refine aD rfl (by kernel_rfl) ?_;rw[b3.out];go_wp2_with fail;go_ret;exact⟨rfl,a2.trans (But.drew _ _)⟩
 by_cases h99:x.op.toNat=99
 ·obtain⟨g,m,cap,d1,hm,hc,b4,lbi,lg⟩:=a6.sig.at (hx.sig h99);rw[show aZ im.classes im.sigs x=[fc im.sigs x.b]from by simp[aZ,h99,aL],h99];rw[h99,show((99:Nat):Int)=99 from rfl]at a0;have a8:=wv ((fc im.sigs x.b).toNat:Int) (fc im.sigs x.b) rfl;generalize fc im.sigs x.b=E at*;clear a1 h103 h99 a4
  go_in
  go_wp2_with fail;rw[a0.out];refine az (But (fun _=>False) W) 11 (by kernel_rfl) ?_
  iterate 9 (refine aB (v:=?_) rfl (by kernel_rfl) (fun _ _ _ h=>h) rfl a7 ?_ ?_;rotate_left;(focus (intro wS h;have q0:=(h.kc i2 lI);have q1:=(h.kc d1 lbi);have q2:=(h.kc b4 lg);clear h;go_simp;try rfl));dsimp only[Act.put];try simp only[aR])
  refine ag rfl (by kernel_rfl) ?_;intro KS hKS;go_simp;refine hKS.out _ _ (fun _=>(But.alloc _ _ _).trans (But.drew _ _)) ?_;clear hKS KS;refine ag rfl (by kernel_rfl) ?_;intro KS hKS;go_simp;refine hKS.out _ _ (fun _=>(But.alloc _ _ _).trans (But.drew _ _)) ?_;clear hKS KS;refine eF rfl (by kernel_rfl) ?_;go_wp2_with fail;go_ret;exact⟨rfl,a2.trans ((But.alloc _ _ _).trans (But.drew _ _))⟩
 by_cases hnx:x.op.toNat=110∨x.op.toNat=120
 ·have e4:=hx.cls (by omega);have a8:=sK (65+(x.a:Int)) (dg x.a) (qX (by omega)) W;rw[a4,←a0.out]at a8;have e5:(x.a:Int)<4:=by omega
  have a5:aZ im.classes im.sigs x=[dg x.a]:=by rcases hnx with hv|hv<;>simp[aZ,hv,aL]
  rw[a5];generalize dg x.a=C at*;clear a1 a5 a4 a0 a6 hI hx a2 i1 i2 lI a7;rcases hnx with h|h
  all_goals
   first|rw[h,show((110:Nat):Int)=110 from rfl]at a8|rw[h,show((120:Nat):Int)=120 from rfl]at a8
   rw[h];clear h103 h99 h
   go_in
   go_wp2_with fail;go_ret;exact⟨rfl,(But.alloc _ _ _).trans (But.alloc _ _ _)⟩
 simp only[not_or]at hnx;simp only[h103,h99,hnx.1,hnx.2,or_false,false_or]at a1;clear a4 a0 a6 hI a2 i1 i2 lI a7;rcases a1 with h'|h'|h'|h'|h'|h'|h'|h'|h'|h'|h'|h'|h'|h'|h'|h'|h'|h'
 all_goals
  rw[show aZ im.classes im.sigs x=_ from by simp only[aZ,aL,h'];rfl,h'];clear h103 h99 hnx h' hx
  go_in
  go_wp2_with fail;go_ret;exact⟨rfl,But.alloc _ _ _⟩
def sL (R:Option (List UInt8×List UInt8)) (st lo:List UInt8):Value:=match R with
 |some (s,l)=> .tuple #[.agg #[.bool true,.string ⟨s.toArray⟩,.string ⟨l.toArray⟩],.bool true]
 |none=> .tuple #[.agg #[.bool true,.string ⟨st.toArray⟩,.string ⟨lo.toArray⟩],.bool false]
theorem gj (l:List UInt8) (k:Nat):(⟨l.toArray⟩:ByteArray).extract 0 k=⟨(l.take k).toArray⟩:=by
 apply ByteArray.ext
 simp[ByteArray.data_extract]
theorem kM (l:List UInt8) (k:Nat):(⟨l.toArray⟩:ByteArray).extract k l.length=⟨(l.drop k).toArray⟩:=by
 apply ByteArray.ext
 simp[ByteArray.data_extract];rw[List.take_of_length_le (by simp)]
theorem ug (cs:List Cls) (gs:List Sig) (b:Bod) (x:Ins):(aP cs gs b x).length≤2:=by
 unfold aP
 repeat' split
 all_goals simp
theorem uh {cs:List Cls} {st wa:List UInt8} (h:cZ cs st wa=true):wa.length≤st.length:=by
 unfold cZ at h;simp at h;exact h.1
theorem yb (bd:Bod) (ak:Option Addr) (n capk:Nat) (x:Ins) (st lo:List UInt8) (w:World): ∃W,(((w.alloc (.cells #[.int .i64 bd.cls,.int .i64 bd.meth,.string ⟨bd.locals.toArray⟩,.slice ak n capk,.slice none 0 0] 52)).alloc (.cells #[.int .u8 x.op.toNat,.int .i64 x.a,.int .i64 x.b,.int .i64 x.pos] 144)).alloc (.cells #[.bool true,.string ⟨st.toArray⟩,.string ⟨lo.toArray⟩] 91)).alloc (.cells #[.bool false,.string ⟨#[]⟩,.string ⟨#[]⟩] 91)=W∧But (fun _=>False) w W∧W.heap[w.heap.size+3]?=some (.cells #[.bool false,.string ⟨#[]⟩,.string ⟨#[]⟩] 91)∧W.heap[w.heap.size+2]?=some (.cells #[.bool true,.string ⟨st.toArray⟩,.string ⟨lo.toArray⟩] 91)∧W.heap[w.heap.size+1]?=some (.cells #[.int .u8 x.op.toNat,.int .i64 x.a,.int .i64 x.b,.int .i64 x.pos] 144)∧W.heap[w.heap.size]?=some (.cells #[.int .i64 bd.cls,.int .i64 bd.meth,.string ⟨bd.locals.toArray⟩,.slice ak n capk,.slice none 0 0] 52):=by
 have a1: ∀(W:World) o,But (fun _=>False) W (W.alloc o):=fun _ _=>But.alloc _ _ _
 exact⟨_,rfl,(((a1 _ _).trans (a1 _ _)).trans (a1 _ _)).trans (a1 _ _),aw (by simp) _,(a1 _ _).kp (aw (by simp) _),(a1 _ _).kp ((a1 _ _).kp (aw (by simp) _)),(a1 _ _).kp ((a1 _ _).kp ((a1 _ _).kp (heap_alloc_new _ _)))⟩
theorem ui (bi:Nat) (im:Img) (bd:Bod) (ak:Option Addr) (n capk:Nat) (x:Ins) (st lo:List UInt8) (w:World) (hI:bT w bi im) (hW:WfI im) (hbd:WfB im.classes im.sigs bd) (hx:WfX im.classes im.sigs.length bd.locals.length x) (hst: ∀c∈st,okT im.classes.length c=true) (hsl:st.length≤200) (hll:lo.length=bd.locals.length) (hv:x.op.toNat≠115∧x.op.toNat≠100∧x.op.toNat≠101∧x.op.toNat≠120∧x.op.toNat≠108):
  Calls Tryz.prog 84 #[.pointer (some ⟨bi,0,none⟩),.agg #[.int .i64 bd.cls,.int .i64 bd.meth,.string ⟨bd.locals.toArray⟩,.slice ak n capk,.slice none 0 0],.agg #[.int .u8 x.op.toNat,.int .i64 x.a,.int .i64 x.b,.int .i64 x.pos],.agg #[.bool true,.string ⟨st.toArray⟩,.string ⟨lo.toArray⟩]] w fun en w'=>en= .returned (sL (cy im.classes im.sigs bd x st lo) st lo)∧But (fun _=>False) w w':=by
 obtain⟨R,e7⟩: ∃R,cy im.classes im.sigs bd x st lo=R:=⟨_,rfl⟩;rw[e7];have f0:Hid (cy im.classes im.sigs bd x st lo=R):=e7;clear e7;have g7:lo.length≤5:=by have:=hbd.loc.1;omega
 have h5:=tf x.op.toNat 115 (by omega);have h2:=tf x.op.toNat 100 (by omega);have h3:=tf x.op.toNat 101 (by omega);have h6:=tf x.op.toNat 120 (by omega);have h4:=tf x.op.toNat 108 (by omega);have a4:R=if cZ im.classes st (aP im.classes im.sigs bd x)=true then some (st.take (st.length-(aP im.classes im.sigs bd x).length)++aZ im.classes im.sigs x,lo)else none:=by rw[←f0.out,cy,if_neg (by omega),if_neg (by omega)]
 have h7:=ug im.classes im.sigs bd x;have h9:=jO im.classes im.sigs x;have b9:=fun w (h:bT w bi im)=>wA bi im bd ak n capk x w h hW hbd hx trivial
 have a3:=fun w (h:bT w bi im)=>mU bi im bd.locals.length x w h hW hx trivial
 generalize aP im.classes im.sigs bd x=P at*;generalize aZ im.classes im.sigs x=U at*;have f8:Hid (R=if cZ im.classes st P=true then some (st.take (st.length-P.length)++U,lo)else none):=a4;have e4:=hid b9;have b0:=hid a3;clear a4 hv f0 hll b9 a3
 go_in
 go_wp2_with fail;obtain⟨W,f7,f4,a0,a1,a2,a9⟩:=yb bd ak n capk x st lo w;rw[f7];clear f7;refine(e4.out _ (hI.but f4)).mono ?_;rintro en w1 ⟨rfl,b1⟩;replace a0:=b1.kp a0;replace a1:=b1.kp a1;replace a2:=b1.kp a2;replace a9:=b1.kp a9;have b4:=f4.trans b1;have e3:=ce0 a1;have a7:=ce1 a1;have a8:=ce2 a1;go_wp2_with fail;refine(wu bi im.classes st P _ (hI.but b4).cls hW.cls hW.nc hst (by omega) (by omega)).mono ?_;rintro en w2 ⟨rfl,b2⟩;clear e3 a7 a8;replace a0:=b2.kp a0;replace a1:=b2.kp a1;replace a2:=b2.kp a2;replace a9:=b2.kp a9;have a5:=b4.trans b2;have g0:=ce0 a2;have g1:=ce1 a2;have g2:=ce2 a2
 have g3:=ce3 a2;have e3:=ce0 a1;have a7:=ce1 a1;have a8:=ce2 a1;have e0:=ce0 a0;have f1:w2.frozen? ⟨w.heap.size+3,0,none⟩=false:=frozen_of_row w2 _ 0 _ _ a0;have e1:=ce1 a0;have f2:w2.frozen? ⟨w.heap.size+3,1,none⟩=false:=frozen_of_row w2 _ 1 _ _ a0;have e2:=ce2 a0;have f3:w2.frozen? ⟨w.heap.size+3,2,none⟩=false:=frozen_of_row w2 _ 2 _ _ a0;have f5:Hid (∀q,cZ im.classes st P=q→R=if q=true then some (st.take (st.length-P.length)++U,lo)else none):=fun q hq=>by rw[f8.out,hq]
 have e6:cZ im.classes st P=true→P.length≤st.length:=uh
 cases hq:cZ im.classes st P with
 |false=>
  have a6:R=none:=by have:=f5.out _ hq;simpa using this
  subst a6;clear hq e6;go_wp2_with fail;refine bodyPost_ret (v:= .tuple #[.agg #[.bool true,.string ⟨st.toArray⟩,.string ⟨lo.toArray⟩],.bool false]) (by simp[results,Tryz.results84,go_sem,e0,e1,e2]) rfl ⟨rfl,?_⟩;exact((a5.next (But.setB _ _ _ _) (fun k hk h=>by omega)).next (But.setB _ _ _ _) (fun k hk h=>by omega)).next (But.setB _ _ _ _) (fun k hk h=>by omega)
 |true=>
  have a6:R=some (st.take (st.length-P.length)++U,lo):=by have:=f5.out _ hq;simpa using this
  have h8:=e6 hq;subst a6;clear hq e6;go_wp2_with fail;refine(b0.out _ (hI.but a5)).mono ?_;rintro en w3 ⟨rfl,b3⟩;clear g0 g1 g2 g3 e3 a7 a8 e0 e1 e2 f1 f2 f3;replace a0:=b3.kp a0;replace a1:=b3.kp a1;replace a2:=b3.kp a2;replace a9:=b3.kp a9;have e5:=a5.trans b3;have e3:=ce0 a1;have a7:=ce1 a1;have a8:=ce2 a1;have e0:=ce0 a0;have f1:w3.frozen? ⟨w.heap.size+3,0,none⟩=false:=frozen_of_row w3 _ 0 _ _ a0;have e1:=ce1 a0;have f2:w3.frozen? ⟨w.heap.size+3,1,none⟩=false:=frozen_of_row w3 _ 1 _ _ a0;have e2:=ce2 a0;have f3:w3.frozen? ⟨w.heap.size+3,2,none⟩=false:=frozen_of_row w3 _ 2 _ _ a0;have g4:(P.length:Int)≤(st.length:Int):=by omega
  have g5:(0:Int)≤(st.length:Int)-(P.length:Int):=by omega
  have g6:(st.length:Int)-(P.length:Int)≤(st.length:Int):=by omega
  have h1:=bH ((st.length:Int)-(P.length:Int)) (by omega) (by omega);have lS:=ae a1;go_wp2_with fail;have f6:But (fun _=>False) w3 w3.drew:=But.drew _ _;refine az (But (fun _=>False) w3) 12 (by kernel_rfl) ?_
  iterate 7 (refine aB (v:=?_) rfl (by kernel_rfl) (fun _ _ _ h=>h) rfl f6 ?_ ?_;rotate_left;(focus (intro wS h;have q0:=(h.kc a7 lS);have q1:=(h.kc a8 lS);clear h;go_simp;try rfl));dsimp only[Act.put];try simp only[aR])
  have b5:(⟨st.toArray⟩:ByteArray).extract 0 (st.length-P.length)=⟨(st.take (st.length-P.length)).toArray⟩:=gj _ _;have h0:(⟨(st.take (st.length-P.length)).toArray⟩:ByteArray).size+(⟨U.toArray⟩:ByteArray).size≤1000:=by show(st.take (st.length-P.length)).toArray.size+U.toArray.size≤1000;simp;omega
  rw[b5];have e8: ¬9223372036854775807<st.length-P.length+U.length:=by omega
  iterate 5 (refine aB (v:=?_) rfl (by kernel_rfl) (fun _ _ _ h=>h) rfl f6 ?_ ?_;rotate_left;(focus (intro wS h;have q0:=(h.kc a7 lS);have q1:=(h.kc a8 lS);clear h;go_simp;try rfl));dsimp only[Act.put];try simp only[aR])
  clear e8 h0 b5 h1 g5 g6 g4;refine eF rfl (by kernel_rfl) ?_;go_wp2_with fail;refine bodyPost_ret (v:= .tuple #[.agg #[.bool true,.string ⟨(st.take (st.length-P.length)++U).toArray⟩,.string ⟨lo.toArray⟩],.bool true]) ?_ rfl ⟨rfl,?_⟩
  ·rw[←cP];simp[results,Tryz.results84,go_sem,e0,e1,e2]
  ·exact(((e5.next (But.setB _ _ _ _) (fun k hk h=>by omega)).next (But.setB _ _ _ _) (fun k hk h=>by omega)).next (But.setB _ _ _ _) (fun k hk h=>by omega)).trans (But.drew _ _)
theorem Ap (bi:Nat) (im:Img) (bd:Bod) (ak:Option Addr) (n capk:Nat) (x:Ins) (st lo:List UInt8) (w:World) (hI:bT w bi im) (hW:WfI im) (hbd:WfB im.classes im.sigs bd) (hx:WfX im.classes im.sigs.length bd.locals.length x) (hst: ∀c∈st,okT im.classes.length c=true) (hsl:st.length≤200) (hll:lo.length=bd.locals.length) (hv:x.op.toNat=108):
  Calls Tryz.prog 84 #[.pointer (some ⟨bi,0,none⟩),.agg #[.int .i64 bd.cls,.int .i64 bd.meth,.string ⟨bd.locals.toArray⟩,.slice ak n capk,.slice none 0 0],.agg #[.int .u8 x.op.toNat,.int .i64 x.a,.int .i64 x.b,.int .i64 x.pos],.agg #[.bool true,.string ⟨st.toArray⟩,.string ⟨lo.toArray⟩]] w fun en w'=>en= .returned (sL (cy im.classes im.sigs bd x st lo) st lo)∧But (fun _=>False) w w':=by
 obtain⟨R,a6⟩: ∃R,cy im.classes im.sigs bd x st lo=R:=⟨_,rfl⟩;rw[a6];have b1:Hid (cy im.classes im.sigs bd x st lo=R):=a6;clear a6;have e8:lo.length≤5:=by have:=hbd.loc.1;omega
 have f5:=tf x.op.toNat 115 (by omega);have f2:=tf x.op.toNat 100 (by omega);have f3:=tf x.op.toNat 101 (by omega);have f6:=tf x.op.toNat 120 (by omega);have f4:((x.op.toNat:Int)==108)=true:=by rw[beq_iff_eq];omega
 have hb:x.b<lo.length:=by rw[hll];exact hx.loc (by omega)
 have g5:(x.b:Int)<(lo.length:Int):=by omega
 have a0:R=if(lo.getD x.b 0).toNat=45 then none else some (st++ [lo.getD x.b 0],lo):=by rw[←b1.out,cy,if_neg (by omega),if_pos hv]
 have a8:=dj lo _ hb;have g7: ∀h,(⟨lo.toArray⟩:ByteArray)[x.b]'h=lo.getD x.b 0:=fun h=>by rw[a8];exact jv lo _ hb _
 have a3:(⟨lo.toArray⟩:ByteArray).extract x.b (x.b+1)=⟨#[lo.getD x.b 0]⟩:=by rw[qY lo x.b hb,a8]
 clear a8;generalize lo.getD x.b 0=C at*;have b2:Hid (R=if C.toNat=45 then none else some (st++ [C],lo)):=a0;have e0:Hid ((⟨lo.toArray⟩:ByteArray).extract x.b (x.b+1)=⟨#[C]⟩):=a3;clear a0 hv b1 hll a3
 by_cases h45:C.toNat=45
 ·have a1:R=none:=by rw[b2.out,if_pos h45]
  subst a1;have tc:((C.toNat:Int)==45)=true:=by rw[beq_iff_eq];omega
  clear h45
  go_in
  go_wp2_with fail;refine bodyPost_ret (v:= .tuple #[.agg #[.bool true,.string ⟨st.toArray⟩,.string ⟨lo.toArray⟩],.bool false]) (by simp[results,Tryz.results84,go_sem]) rfl ⟨rfl,?_⟩;exact(((But.alloc _ _ _).trans (But.alloc _ _ _)).trans (But.alloc _ _ _)).trans (But.alloc _ _ _)
 ·have a1:R=some (st++ [C],lo):=by rw[b2.out,if_neg h45]
  subst a1;have tc:=tf C.toNat 45 (by omega);clear h45
  go_in
  go_wp2_with fail;obtain⟨W,b9,e5,a2,a5,a4,g6⟩:=yb bd ak n capk x st lo w;rw[b9];clear b9;have f7:=ce0 a4;have f8:=ce1 a4;have e1:=ce2 a4;have g0:=ce3 a4;have g1:=ce0 a5;have b3:=ce1 a5;have b4:=ce2 a5;have e2:=ce0 a2;have g2:W.frozen? ⟨w.heap.size+3,0,none⟩=false:=frozen_of_row W _ 0 _ _ a2;have e3:=ce1 a2;have g3:W.frozen? ⟨w.heap.size+3,1,none⟩=false:=frozen_of_row W _ 1 _ _ a2;have e4:=ce2 a2;have g4:W.frozen? ⟨w.heap.size+3,2,none⟩=false:=frozen_of_row W _ 2 _ _ a2;have lS:=ae a5;have lI:=ae a4;have f0:=hx.num;have f1:=bH ((x.b:Int)+1) (by omega) (by omega);have e7:(x.b:Int)≤(x.b:Int)+1:=by omega
  have a9:(0:Int)≤(x.b:Int)+1:=by omega
  have b0:(x.b:Int)+1≤(lo.length:Int):=by omega
  have b5:But (fun _=>False) W W.drew:=But.drew _ _;refine az (But (fun _=>False) W) 14 (by kernel_rfl) ?_
  iterate 10 (refine aB (v:=?_) rfl (by kernel_rfl) (fun _ _ _ h=>h) rfl b5 ?_ ?_;rotate_left;(focus (intro wS h;have q0:=(h.kc b3 lS);have q1:=(h.kc b4 lS);have q2:=(h.kc e1 lI);clear h;go_simp;try rfl));dsimp only[Act.put];try simp only[aR])
  rw[e0.out];clear f1 e7 a9 b0;have a7: ¬9223372036854775807<st.length+1:=by omega
  have e6:(⟨#[C]⟩:ByteArray).size=1:=rfl
  iterate 4 (refine aB (v:=?_) rfl (by kernel_rfl) (fun _ _ _ h=>h) rfl b5 ?_ ?_;rotate_left;(focus (intro wS h;have q0:=(h.kc b3 lS);have q1:=(h.kc b4 lS);clear h;go_simp;try rfl));dsimp only[Act.put];try simp only[aR])
  clear a7 e6;refine eF rfl (by kernel_rfl) ?_;go_wp2_with fail;refine bodyPost_ret (v:= .tuple #[.agg #[.bool true,.string ⟨(st++ [C]).toArray⟩,.string ⟨lo.toArray⟩],.bool true]) ?_ rfl ⟨rfl,?_⟩
  ·rw[←ff];simp[results,Tryz.results84,go_sem,e2,e3,e4]
  ·exact(((e5.next (But.setB _ _ _ _) (fun k hk h=>by omega)).next (But.setB _ _ _ _) (fun k hk h=>by omega)).next (But.setB _ _ _ _) (fun k hk h=>by omega)).trans (But.drew _ _)
theorem uj (lo st:List UInt8) (b:Nat) (hb:b<lo.length) (hs:0<st.length):
  ((⟨lo.toArray⟩:ByteArray).extract 0 b++(⟨st.toArray⟩:ByteArray).extract (st.length-1) st.length)++(⟨lo.toArray⟩:ByteArray).extract (b+1) lo.length=⟨(lo.set b (st.getD (st.length-1) 0)).toArray⟩:=by
 rw[gj,kM,kM,cP,cP]
 congr 2
 have h1:st.drop (st.length-1)=[st.getD (st.length-1) 0]:=by
  rw[dj st _ (by omega)];rw[List.drop_eq_getElem_cons (by omega)];rw[List.drop_eq_nil_of_le (by omega)]
 rw[h1,List.set_eq_take_append_cons_drop,if_pos hb];simp
theorem oR {c:Nat} {st:List UInt8} {k:Nat} (h:cg c st=some k):k≤st.length∧1≤k:=by
 unfold cg at h
 split at h
 ·split at h
  ·cases h
  ·rename_i h1;cases h;omega
 ·split at h
  ·cases h
  ·rename_i h1;cases h;omega
theorem yc (bi:Nat) (im:Img) (bd:Bod) (ak:Option Addr) (n capk:Nat) (x:Ins) (st lo:List UInt8) (w:World) (hI:bT w bi im) (hW:WfI im) (hbd:WfB im.classes im.sigs bd) (hx:WfX im.classes im.sigs.length bd.locals.length x) (hst: ∀c∈st,okT im.classes.length c=true) (hsl:st.length≤200) (hll:lo.length=bd.locals.length) (hv:x.op.toNat=115):
  Calls Tryz.prog 84 #[.pointer (some ⟨bi,0,none⟩),.agg #[.int .i64 bd.cls,.int .i64 bd.meth,.string ⟨bd.locals.toArray⟩,.slice ak n capk,.slice none 0 0],.agg #[.int .u8 x.op.toNat,.int .i64 x.a,.int .i64 x.b,.int .i64 x.pos],.agg #[.bool true,.string ⟨st.toArray⟩,.string ⟨lo.toArray⟩]] w fun en w'=>en= .returned (sL (cy im.classes im.sigs bd x st lo) st lo)∧But (fun _=>False) w w':=by
 obtain⟨R,f6⟩: ∃R,cy im.classes im.sigs bd x st lo=R:=⟨_,rfl⟩;rw[f6];have g6:Hid (cy im.classes im.sigs bd x st lo=R):=f6;clear f6;have i4:lo.length≤5:=by have:=hbd.loc.1;omega
 have j1:((x.op.toNat:Int)==115)=true:=by rw[beq_iff_eq];omega
 have hb:x.b<lo.length:=by rw[hll];exact hx.loc (by omega)
 have j4:(x.b:Int)<(lo.length:Int):=by omega
 have a3:R=match cg x.op.toNat st with|none=>none|some k=>some (st.take (st.length-k)++aZ im.classes im.sigs x,lo.set x.b (st.getD (st.length-1) 0)):=by rw[←g6.out,cy,if_pos (by omega)];cases cg x.op.toNat st<;>simp[hv]
 have j3:=jO im.classes im.sigs x;have a9:=fun w (h:bT w bi im)=>mU bi im bd.locals.length x w h hW hx trivial
 generalize aZ im.classes im.sigs x=U at*;obtain⟨a4,b3⟩: ∃a4,lo.set x.b (st.getD (st.length-1) 0)=a4:=⟨_,rfl⟩;rw[b3]at a3;have h3:Hid (lo.set x.b (st.getD (st.length-1) 0)=a4):=b3;clear b3;have f2:Hid (R=match cg x.op.toNat st with|none=>none|some k=>some (st.take (st.length-k)++U,a4)):=a3;have b9:=hid a9;clear a3 hv g6 hll a9
 go_in
 go_wp2_with fail;obtain⟨W,h2,h4,a1,a2,a0,a5⟩:=yb bd ak n capk x st lo w;rw[h2];clear h2;refine(oQ x st _ (by omega)).mono ?_;rintro en w1 ⟨rfl,e2⟩;replace a1:=e2.kp a1;replace a2:=e2.kp a2;replace a0:=e2.kp a0;replace a5:=e2.kp a5;have e5:=h4.trans e2;have b0:=ce0 a0;have b1:=ce1 a0;have a7:=ce2 a0;have b2:=ce3 a0;have f3:=ce0 a2;have e0:=ce1 a2;have e1:=ce2 a2;have e8:=ce0 a1;have g7:w1.frozen? ⟨w.heap.size+3,0,none⟩=false:=frozen_of_row w1 _ 0 _ _ a1;have f0:=ce1 a1;have h0:w1.frozen? ⟨w.heap.size+3,1,none⟩=false:=frozen_of_row w1 _ 1 _ _ a1;have f1:=ce2 a1;have h1:w1.frozen? ⟨w.heap.size+3,2,none⟩=false:=frozen_of_row w1 _ 2 _ _ a1
 have lS:=ae a2;have lI:=ae a0;have lR:=ae a1;have g2:= @oR x.op.toNat st
 cases hq:cg x.op.toNat st with
 |none=>
  have b4:R=none:=by rw[f2.out,hq]
  subst b4;simp only[qU];clear hq g2;go_wp2_with fail;refine bodyPost_ret (v:= .tuple #[.agg #[.bool true,.string ⟨st.toArray⟩,.string ⟨lo.toArray⟩],.bool false]) (by simp[results,Tryz.results84,go_sem,e8,f0,f1]) rfl ⟨rfl,?_⟩;exact((e5.next (But.setB _ _ _ _) (fun k hk h=>by omega)).next (But.setB _ _ _ _) (fun k hk h=>by omega)).next (But.setB _ _ _ _) (fun k hk h=>by omega)
 |some k=>
  have b4:R=some (st.take (st.length-k)++U,a4):=by rw[f2.out,hq]
  subst b4;obtain⟨k0,j7⟩:=g2 hq;simp only[qU];clear hq g2 f2;have j5:(0:Int)≤(k:Int):=by omega
  go_wp2_with fail;have i0:(0:Int)≤(st.length:Int)-(k:Int):=by omega
  have i1:(st.length:Int)-(k:Int)≤(st.length:Int):=by omega
  have i2:(k:Int)≤(st.length:Int):=by omega
  have g4:=bH ((st.length:Int)-(k:Int)) (by omega) (by omega);have h5:But (fun _=>False) w1 w1.drew:=But.drew _ _;refine az (But (fun _=>False) w1) 10 (by kernel_rfl) ?_
  iterate 9 (refine aB (v:=?_) rfl (by kernel_rfl) (fun _ _ _ h=>h) rfl h5 ?_ ?_;rotate_left;(focus (intro wS h;have q0:=(h.kc e0 lS);have q1:=(h.kc e1 lS);clear h;go_simp;try rfl));dsimp only[Act.put];try simp only[aR])
  have e6:(⟨st.toArray⟩:ByteArray).extract 0 (st.length-k)=⟨(st.take (st.length-k)).toArray⟩:=gj _ _;rw[e6];clear e6 g4 i0 i1 i2;refine ag rfl (by kernel_rfl) ?_;intro KS hKS;go_simp;refine hKS.out _ _ (fun _=>(But.alloc _ _ _).trans (But.drew _ _)) ?_;clear hKS KS;refine ag rfl (by kernel_rfl) ?_;intro KS hKS;go_simp;refine hKS.out _ _ nofun ?_;clear hKS KS;refine aD rfl (by kernel_rfl) ?_;clear b0 b1 a7 b2 f3 e0 e1 e8 f0 f1 g7 h0 h1;have e3:But (fun _=>False) w1 (w1.alloc (.cells #[.bool true,.string ⟨(st.take (st.length-k)).toArray⟩,.string ⟨lo.toArray⟩] 91)).drew:=(But.alloc _ _ _).trans (But.drew _ _)
  have a6:(w1.alloc (.cells #[.bool true,.string ⟨(st.take (st.length-k)).toArray⟩,.string ⟨lo.toArray⟩] 91)).drew.heap[w1.heap.size]?=some (.cells #[.bool true,.string ⟨(st.take (st.length-k)).toArray⟩,.string ⟨lo.toArray⟩] 91):=heap_alloc_new w1 _;replace a1:=e3.kp a1;replace a2:=e3.kp a2;replace a0:=e3.kp a0;replace a5:=e3.kp a5;have f4:=e5.trans e3;generalize (w1.alloc (.cells #[.bool true,.string ⟨(st.take (st.length-k)).toArray⟩,.string ⟨lo.toArray⟩] 91)).drew=w2 at*;obtain⟨gT,e7⟩: ∃gT,w1.heap.size=gT:=⟨_,rfl⟩;rw[e7]at a6⊢;have j2:w.heap.size+3<gT:=by omega
  clear e7;have b0:=ce0 a0;have b1:=ce1 a0;have a7:=ce2 a0;have b2:=ce3 a0;have k1:(1:Int)≤(st.length:Int):=by omega
  go_wp2_with fail;clear b0 b1 a7 b2;have b0:=ce0 a0;have b1:=ce1 a0;have a7:=ce2 a0;have b2:=ce3 a0;have f3:=ce0 a2;have e0:=ce1 a2;have e1:=ce2 a2;replace lS:=ae a2;replace lI:=ae a0;have j0:=hx.num;have g4:=bH ((x.b:Int)+1) (by omega) (by omega);have g5:=bH ((st.length:Int)-1) (by omega) (by omega);have i5:(0:Int)≤(st.length:Int)-1:=by omega
  have i6:(st.length:Int)-1≤(st.length:Int):=by omega
  have i3:(x.b:Int)≤(lo.length:Int):=by omega
  have g0:(0:Int)≤(x.b:Int)+1:=by omega
  have g1:(x.b:Int)+1≤(lo.length:Int):=by omega
  have h7: ¬9223372036854775807<min x.b lo.length+(st.length-(st.length-1)):=by omega
  have h8: ¬9223372036854775807<min x.b lo.length+(st.length-(st.length-1))+(lo.length-(x.b+1)):=by omega
  have h9: ¬9223372036854775807<x.b+1:=by omega
  have h6:But (fun _=>False) w2 w2.drew:=But.drew _ _;refine az (But (fun _=>False) w2) 19 (by kernel_rfl) ?_
  iterate 19 (refine aB (v:=?_) rfl (by kernel_rfl) (fun _ _ _ h=>h) rfl h6 ?_ ?_;rotate_left;(focus (intro wS h;have q0:=(h.kc e0 lS);have q1:=(h.kc e1 lS);have q2:=(h.kc a7 lI);clear h;go_simp;try rfl));dsimp only[Act.put];try simp only[aR])
  have g3:=uj lo st x.b hb (by omega);rw[h3.out]at g3;rw[g3];clear g3 g4 g5 i5 i6 i3 g0 g1 h7 h8 h9;have T2:=ce2 a6;have F2:w2.frozen? ⟨gT,2,none⟩=false:=frozen_of_row w2 _ 2 _ _ a6;refine ag rfl (by kernel_rfl) ?_;intro KS hKS;go_simp;refine hKS.out _ _ nofun ?_;clear hKS KS T2 F2;refine aD rfl (by kernel_rfl) ?_;clear b0 b1 a7 b2 f3 e0 e1;have e4:But (· =gT) w2 (w2.setCell ⟨gT,2,none⟩ (.string ⟨a4.toArray⟩)).drew:=(But.setB _ _ _ _).next (But.drew (fun _=>False) _) (fun _ _ h=>h.elim);have f8:(w2.setCell ⟨gT,2,none⟩ (.string ⟨a4.toArray⟩)).drew.heap[gT]?=some (.cells #[.bool true,.string ⟨(st.take (st.length-k)).toArray⟩,.string ⟨a4.toArray⟩] 91):=heap_setCell_same w2 _ 2 _ _ _ a6
  replace a1:=(e4.block _ (ae a1) (by omega)).trans a1;replace a2:=(e4.block _ (ae a2) (by omega)).trans a2;replace a0:=(e4.block _ (ae a0) (by omega)).trans a0;replace a5:=(e4.block _ (ae a5) (by omega)).trans a5;have a8:=f4.next e4 (fun k hk h=>by omega);generalize (w2.setCell ⟨gT,2,none⟩ (.string ⟨a4.toArray⟩)).drew=w2c at*;have b0:=ce0 a0;have b1:=ce1 a0;have a7:=ce2 a0;have b2:=ce3 a0;go_wp2_with fail;refine(b9.out _ (hI.but a8)).mono ?_;rintro en w3 ⟨rfl,b5⟩;clear b0 b1 a7 b2;replace a6:=b5.kp f8;replace a1:=b5.kp a1;replace a2:=b5.kp a2;replace a0:=b5.kp a0;replace a5:=b5.kp a5;have f5:=a8.trans b5
  have e8:=ce0 a1;have g7:w3.frozen? ⟨w.heap.size+3,0,none⟩=false:=frozen_of_row w3 _ 0 _ _ a1;have f0:=ce1 a1;have h0:w3.frozen? ⟨w.heap.size+3,1,none⟩=false:=frozen_of_row w3 _ 1 _ _ a1;have f1:=ce2 a1;have h1:w3.frozen? ⟨w.heap.size+3,2,none⟩=false:=frozen_of_row w3 _ 2 _ _ a1;have T0:=ce0 a6;have T1:=ce1 a6;have T2:=ce2 a6;have F1:w3.frozen? ⟨gT,1,none⟩=false:=frozen_of_row w3 _ 1 _ _ a6;have f7: ¬9223372036854775807<st.length-k+U.length:=by omega
  have i7:gT≠w.heap.size+3:=by omega
  have i9:w.heap.size+3≠gT:=by omega
  go_wp2_with fail;clear f7;refine bodyPost_ret (v:= .tuple #[.agg #[.bool true,.string ⟨(st.take (st.length-k)++U).toArray⟩,.string ⟨a4.toArray⟩],.bool true]) ?_ rfl ⟨rfl,?_⟩
  ·rw[←cP];simp[results,Tryz.results84,go_sem,e8,f0,f1]
  ·exact(((f5.next (But.setB _ _ _ _) (fun k hk h=>by omega)).next (But.setB _ _ _ _) (fun k hk h=>by omega)).next (But.setB _ _ _ _) (fun k hk h=>by omega)).next (But.setB _ _ _ _) (fun k hk h=>by omega)
theorem yU (bi:Nat) (im:Img) (bd:Bod) (ak:Option Addr) (n capk:Nat) (x:Ins) (st lo:List UInt8) (w:World) (hI:bT w bi im) (hW:WfI im) (hbd:WfB im.classes im.sigs bd) (hx:WfX im.classes im.sigs.length bd.locals.length x) (hst: ∀c∈st,okT im.classes.length c=true) (hsl:st.length≤200) (hll:lo.length=bd.locals.length) (hv:x.op.toNat=100∨x.op.toNat=101∨x.op.toNat=120):
  Calls Tryz.prog 84 #[.pointer (some ⟨bi,0,none⟩),.agg #[.int .i64 bd.cls,.int .i64 bd.meth,.string ⟨bd.locals.toArray⟩,.slice ak n capk,.slice none 0 0],.agg #[.int .u8 x.op.toNat,.int .i64 x.a,.int .i64 x.b,.int .i64 x.pos],.agg #[.bool true,.string ⟨st.toArray⟩,.string ⟨lo.toArray⟩]] w fun en w'=>en= .returned (sL (cy im.classes im.sigs bd x st lo) st lo)∧But (fun _=>False) w w':=by
 obtain⟨R,f2⟩: ∃R,cy im.classes im.sigs bd x st lo=R:=⟨_,rfl⟩;rw[f2];have f8:Hid (cy im.classes im.sigs bd x st lo=R):=f2;clear f2;have h4:lo.length≤5:=by have:=hbd.loc.1;omega
 have h9:=tf x.op.toNat 115 (by omega);obtain⟨b1,f5⟩: ∃b,((x.op.toNat:Int)==100)=b:=⟨_,rfl⟩;obtain⟨b2,f6⟩: ∃b,((x.op.toNat:Int)==101)=b:=⟨_,rfl⟩;obtain⟨b3,f7⟩: ∃b,((x.op.toNat:Int)==120)=b:=⟨_,rfl⟩
 have hb:b1=true∨(b1=false∧b2=true)∨(b1=false∧b2=false∧b3=true):=by
  rw[←f5,←f6,←f7];simp only[beq_iff_eq,beq_eq_false_iff_ne];omega
 have h7:x.op.toNat≠115:=by omega
 have a4:R=match cg x.op.toNat st with|none=>none|some k=>some (st.take (st.length-k)++aZ im.classes im.sigs x,lo):=by rw[←f8.out,cy,if_pos (by omega)];cases cg x.op.toNat st<;>simp[h7]
 have i1:=jO im.classes im.sigs x;have a3:=fun w (h:bT w bi im)=>mU bi im bd.locals.length x w h hW hx trivial
 generalize aZ im.classes im.sigs x=U at*;have e5:Hid (R=match cg x.op.toNat st with|none=>none|some k=>some (st.take (st.length-k)++U,lo)):=a4;have a9:=hid a3;clear a4 hv f8 hll a3;rcases hb with rfl| ⟨rfl,rfl⟩ | ⟨rfl,rfl,rfl⟩
 all_goals
  go_in
  go_wp2_with fail;obtain⟨W,g5,g7,a0,a2,a1,a8⟩:=yb bd ak n capk x st lo w;rw[g5];clear g5;refine(oQ x st _ (by omega)).mono ?_;rintro en w1 ⟨rfl,b0⟩;replace a0:=b0.kp a0;replace a2:=b0.kp a2;replace a1:=b0.kp a1;replace a8:=b0.kp a8;have b5:=g7.trans b0;have e6:=ce0 a1;have e7:=ce1 a1;have e8:=ce2 a1;have f0:=ce3 a1;have g6:=ce0 a2;have g0:=ce1 a2;have g1:=ce2 a2;have e2:=ce0 a0;have g2:w1.frozen? ⟨w.heap.size+3,0,none⟩=false:=frozen_of_row w1 _ 0 _ _ a0;have e3:=ce1 a0;have g3:w1.frozen? ⟨w.heap.size+3,1,none⟩=false:=frozen_of_row w1 _ 1 _ _ a0;have e4:=ce2 a0;have g4:w1.frozen? ⟨w.heap.size+3,2,none⟩=false:=frozen_of_row w1 _ 2 _ _ a0
  have lS:=ae a2;have lI:=ae a1;have lR:=ae a0;have f4:= @oR x.op.toNat st
  cases hq:cg x.op.toNat st with
  |none=>
   have a6:R=none:=by rw[e5.out,hq]
   subst a6;simp only[qU];clear hq f4;go_wp2_with fail;refine bodyPost_ret (v:= .tuple #[.agg #[.bool true,.string ⟨st.toArray⟩,.string ⟨lo.toArray⟩],.bool false]) (by simp[results,Tryz.results84,go_sem,e2,e3,e4]) rfl ⟨rfl,?_⟩;exact((b5.next (But.setB _ _ _ _) (fun k hk h=>by omega)).next (But.setB _ _ _ _) (fun k hk h=>by omega)).next (But.setB _ _ _ _) (fun k hk h=>by omega)
  |some k=>
   have a6:R=some (st.take (st.length-k)++U,lo):=by rw[e5.out,hq]
   subst a6;obtain⟨i4,i3⟩:=f4 hq;simp only[qU];clear hq f4 e5;have i2:(0:Int)≤(k:Int):=by omega
   go_wp2_with fail;have h1:(0:Int)≤(st.length:Int)-(k:Int):=by omega
   have h2:(st.length:Int)-(k:Int)≤(st.length:Int):=by omega
   have h3:(k:Int)≤(st.length:Int):=by omega
   have h8:=bH ((st.length:Int)-(k:Int)) (by omega) (by omega);have h0:But (fun _=>False) w1 w1.drew:=But.drew _ _;refine az (But (fun _=>False) w1) 10 (by kernel_rfl) ?_
   iterate 9 (refine aB (v:=?_) rfl (by kernel_rfl) (fun _ _ _ h=>h) rfl h0 ?_ ?_;rotate_left;(focus (intro wS h;have q0:=(h.kc g0 lS);have q1:=(h.kc g1 lS);clear h;go_simp;try rfl));dsimp only[Act.put];try simp only[aR])
   have e0:(⟨st.toArray⟩:ByteArray).extract 0 (st.length-k)=⟨(st.take (st.length-k)).toArray⟩:=gj _ _;rw[e0];clear e0 h8 h1 h2 h3;refine ag rfl (by kernel_rfl) ?_;intro KS hKS;go_simp;refine hKS.out _ _ (fun _=>(But.alloc _ _ _).trans (But.drew _ _)) ?_;clear hKS KS;refine ag rfl (by kernel_rfl) ?_;intro KS hKS;go_simp;refine hKS.out _ _ nofun ?_;clear hKS KS;refine aD rfl (by kernel_rfl) ?_;clear e6 e7 e8 f0 g6 g0 g1 e2 e3 e4 g2 g3 g4;have b4:But (fun _=>False) w1 (w1.alloc (.cells #[.bool true,.string ⟨(st.take (st.length-k)).toArray⟩,.string ⟨lo.toArray⟩] 91)).drew:=(But.alloc _ _ _).trans (But.drew _ _)
   have a5:(w1.alloc (.cells #[.bool true,.string ⟨(st.take (st.length-k)).toArray⟩,.string ⟨lo.toArray⟩] 91)).drew.heap[w1.heap.size]?=some (.cells #[.bool true,.string ⟨(st.take (st.length-k)).toArray⟩,.string ⟨lo.toArray⟩] 91):=heap_alloc_new w1 _;replace a0:=b4.kp a0;replace a2:=b4.kp a2;replace a1:=b4.kp a1;replace a8:=b4.kp a8;have b9:=b5.trans b4;generalize (w1.alloc (.cells #[.bool true,.string ⟨(st.take (st.length-k)).toArray⟩,.string ⟨lo.toArray⟩] 91)).drew=w2 at*;obtain⟨gT,e1⟩: ∃gT,w1.heap.size=gT:=⟨_,rfl⟩;rw[e1]at a5⊢;have i0:w.heap.size+3<gT:=by omega
   clear e1;have e6:=ce0 a1;have e7:=ce1 a1;have e8:=ce2 a1;have f0:=ce3 a1;go_wp2_with fail;refine(a9.out _ (hI.but b9)).mono ?_;rintro en w3 ⟨rfl,a7⟩;clear e6 e7 e8 f0;replace a5:=a7.kp a5;replace a0:=a7.kp a0;replace a2:=a7.kp a2;replace a1:=a7.kp a1;replace a8:=a7.kp a8;have f1:=b9.trans a7;have e2:=ce0 a0;have g2:w3.frozen? ⟨w.heap.size+3,0,none⟩=false:=frozen_of_row w3 _ 0 _ _ a0;have e3:=ce1 a0;have g3:w3.frozen? ⟨w.heap.size+3,1,none⟩=false:=frozen_of_row w3 _ 1 _ _ a0;have e4:=ce2 a0;have g4:w3.frozen? ⟨w.heap.size+3,2,none⟩=false:=frozen_of_row w3 _ 2 _ _ a0;have T0:=ce0 a5;have T1:=ce1 a5
   have T2:=ce2 a5;have F1:w3.frozen? ⟨gT,1,none⟩=false:=frozen_of_row w3 _ 1 _ _ a5;have f3: ¬9223372036854775807<st.length-k+U.length:=by omega
   have h5:gT≠w.heap.size+3:=by omega
   have h6:w.heap.size+3≠gT:=by omega
   go_wp2_with fail;clear f3;refine bodyPost_ret (v:= .tuple #[.agg #[.bool true,.string ⟨(st.take (st.length-k)++U).toArray⟩,.string ⟨lo.toArray⟩],.bool true]) ?_ rfl ⟨rfl,?_⟩
   ·rw[←cP];simp[results,Tryz.results84,go_sem,e2,e3,e4]
   ·exact(((f1.next (But.setB _ _ _ _) (fun k hk h=>by omega)).next (But.setB _ _ _ _) (fun k hk h=>by omega)).next (But.setB _ _ _ _) (fun k hk h=>by omega)).next (But.setB _ _ _ _) (fun k hk h=>by omega)
theorem sM (bi:Nat) (im:Img) (bd:Bod) (ak:Option Addr) (n capk:Nat) (x:Ins) (st lo:List UInt8) (w:World) (hI:bT w bi im) (hW:WfI im) (hbd:WfB im.classes im.sigs bd) (hx:WfX im.classes im.sigs.length bd.locals.length x) (hst: ∀c∈st,okT im.classes.length c=true) (hsl:st.length≤200) (hll:lo.length=bd.locals.length) (hdummy:True):
  Calls Tryz.prog 84 #[.pointer (some ⟨bi,0,none⟩),.agg #[.int .i64 bd.cls,.int .i64 bd.meth,.string ⟨bd.locals.toArray⟩,.slice ak n capk,.slice none 0 0],.agg #[.int .u8 x.op.toNat,.int .i64 x.a,.int .i64 x.b,.int .i64 x.pos],.agg #[.bool true,.string ⟨st.toArray⟩,.string ⟨lo.toArray⟩]] w fun en w'=>en= .returned (sL (cy im.classes im.sigs bd x st lo) st lo)∧But (fun _=>False) w w':=by
 by_cases h1:x.op.toNat=115
 ·exact yc bi im bd ak n capk x st lo w hI hW hbd hx hst hsl hll h1
 by_cases h2:x.op.toNat=100∨x.op.toNat=101∨x.op.toNat=120
 ·exact yU bi im bd ak n capk x st lo w hI hW hbd hx hst hsl hll h2
 by_cases h5:x.op.toNat=108
 ·exact Ap bi im bd ak n capk x st lo w hI hW hbd hx hst hsl hll h5
 exact ui bi im bd ak n capk x st lo w hI hW hbd hx hst hsl hll (by omega)
theorem qZ (x:Ins) (i:Nat) (w:World) (hi:i≤1000):
  Calls Tryz.prog 85 #[.agg #[.int .u8 x.op.toNat,.int .i64 x.a,.int .i64 x.b,.int .i64 x.pos],.int .i64 i] w fun en w'=>en= .returned (.tuple #[.int .i64 (bD x i).1,.int .i64 (bD x i).2])∧But (fun _=>False) w w':=by
 obtain⟨R,a0⟩: ∃R,bD x i=R:=⟨_,rfl⟩;rw[a0];unfold bD at a0
 by_cases h1:x.op.toNat=116
 ·rw[if_pos h1]at a0;subst a0;have t1:((x.op.toNat:Int)==116)=true:=by rw[beq_iff_eq];omega
  clear h1
  go_in
  go_wp2
  go_ret2
  exact⟨rfl,But.alloc _ _ _⟩
 rw[if_neg h1]at a0;have t1:=tf x.op.toNat 116 (by omega)
 by_cases h2:x.op.toNat=106
 ·rw[if_pos h2]at a0;subst a0;have t2:((x.op.toNat:Int)==106)=true:=by rw[beq_iff_eq];omega
  clear h1 h2
  go_in
  go_wp2
  go_ret2
  exact⟨rfl,But.alloc _ _ _⟩
 rw[if_neg h2]at a0;have t2:=tf x.op.toNat 106 (by omega)
 by_cases h3:x.op.toNat=102
 ·rw[if_pos h3]at a0;subst a0;have t3:((x.op.toNat:Int)==102)=true:=by rw[beq_iff_eq];omega
  clear h1 h2 h3
  go_in
  go_wp2
  go_quiet (fail)
  go_wp2
  go_ret2
  exact⟨rfl,(But.alloc _ _ _).trans (But.drewN _ _ _)⟩
 ·rw[if_neg h3]at a0;subst a0;have t3:=tf x.op.toNat 102 (by omega);clear h1 h2 h3
  go_in
  go_wp2
  go_ret2
  exact⟨rfl,But.alloc _ _ _⟩
theorem uk (bd:Bod) (ak:Option Addr) (n capk:Nat) (w:World):
  Calls Tryz.prog 56 #[.agg #[.int .i64 bd.cls,.int .i64 bd.meth,.string ⟨bd.locals.toArray⟩,.slice ak n capk,.slice none 0 0]] w fun en w'=>en= .returned (.agg #[.bool true,.string ⟨#[]⟩,.string ⟨bd.locals.toArray⟩])∧But (fun _=>False) w w':=by
 go_in
 go_wp2
 refine bodyPost_ret (v:= .agg #[.bool true,.string ⟨#[]⟩,.string ⟨bd.locals.toArray⟩]) (by simp[results,Tryz.results56,go_sem]) rfl ⟨rfl,?_⟩;exact(But.alloc _ _ _).trans (But.alloc _ _ _)
def stV (o:Option (List UInt8×List UInt8)):Array Value:=match o with
 |none=>#[.bool false,.string ⟨#[]⟩,.string ⟨#[]⟩]
 |some (s,l)=>#[.bool true,.string ⟨s.toArray⟩,.string ⟨l.toArray⟩]
def jw (cs:List Cls) (a:Option (List UInt8×List UInt8)) (sb lb:List UInt8):Value:=match dq cs a sb lb with
 |some m=> .tuple #[.agg (stV (some m)),.bool true]
 |none=> .tuple #[.agg (stV a),.bool false]
theorem um (bi:Nat) (cs:List Cls) (nl:Nat) (a:Option (List UInt8×List UInt8)) (sb lb:List UInt8) (w:World) (hI:fG w bi cs) (hw:WfC cs) (hn:cs.length≤4) (hnl:nl≤5) (ha: ∀s l,a=some (s,l)→okS cs.length nl s l) (hb:okS cs.length nl sb lb):
  Calls Tryz.prog 227 #[.pointer (some ⟨bi,0,none⟩),.agg (stV a),.agg #[.bool true,.string ⟨sb.toArray⟩,.string ⟨lb.toArray⟩]] w fun en w'=>en= .returned (jw cs a sb lb)∧But (fun _=>False) w w':=by
 obtain⟨b9,e0,b1,e4⟩:=hb
 cases a with
 |none=>
  simp only[stV,jw,dq]
  go_in
  go_wp2_with fail;refine bodyPost_ret (v:= .tuple #[.agg #[.bool true,.string ⟨sb.toArray⟩,.string ⟨lb.toArray⟩],.bool true]) (by simp[results,Tryz.results227,go_sem]) rfl ⟨rfl,?_⟩;exact((But.alloc _ _ _).trans (But.alloc _ _ _)).trans (But.alloc _ _ _)
 |some m=>
  obtain⟨sa,la⟩:=m;obtain⟨b4,b5,b0,e3⟩:=ha sa la rfl
  by_cases hl:sa.length=sb.length
  ·have t1:((sa.length:Int)!=(sb.length:Int))=false:=by rw[bne_eq_false_iff_eq];omega
   have a3:jw cs (some (sa,la)) sb lb= .tuple #[.agg #[.bool true,.string ⟨(bW cs sa sb).toArray⟩,.string ⟨(bW cs la lb).toArray⟩],.bool true]:=by simp[jw,dq,hl,stV]
   rw[a3];simp only[stV];have HL:Hid (sa.length=sb.length):=hl;have b3:Hid (la.length=lb.length):=by show _=_;omega
   have e2:=lx (cs:=cs) hl;generalize hX:bW cs sa sb=X;generalize hY:bW cs la lb=Y;have HX:Hid (bW cs sa sb=X):=hX;have HY:Hid (bW cs la lb=Y):=hY;have e1:la.length≤100:=by omega
   clear hl a3 e2 hX hY b0 b1
   go_in
   go_wp2_with fail;have a8:But (fun _=>False) w (((w.alloc (.cells #[.bool true,.string ⟨sa.toArray⟩,.string ⟨la.toArray⟩] 91)).alloc (.cells #[.bool true,.string ⟨sb.toArray⟩,.string ⟨lb.toArray⟩] 91)).alloc (.cells #[.bool false,.string ⟨#[]⟩,.string ⟨#[]⟩] 91)):=((But.alloc _ _ _).trans (But.alloc _ _ _)).trans (But.alloc _ _ _);have a0:(((w.alloc (.cells #[.bool true,.string ⟨sa.toArray⟩,.string ⟨la.toArray⟩] 91)).alloc (.cells #[.bool true,.string ⟨sb.toArray⟩,.string ⟨lb.toArray⟩] 91)).alloc (.cells #[.bool false,.string ⟨#[]⟩,.string ⟨#[]⟩] 91)).heap[w.heap.size+2]?=some (.cells #[.bool false,.string ⟨#[]⟩,.string ⟨#[]⟩] 91):=aw (by simp) _
   have a7:(((w.alloc (.cells #[.bool true,.string ⟨sa.toArray⟩,.string ⟨la.toArray⟩] 91)).alloc (.cells #[.bool true,.string ⟨sb.toArray⟩,.string ⟨lb.toArray⟩] 91)).alloc (.cells #[.bool false,.string ⟨#[]⟩,.string ⟨#[]⟩] 91)).heap[w.heap.size+1]?=some (.cells #[.bool true,.string ⟨sb.toArray⟩,.string ⟨lb.toArray⟩] 91):=((But.alloc (fun _=>False) _ _).block _ (by simp) (fun h=>h)).trans (aw (by simp) _);have a6:(((w.alloc (.cells #[.bool true,.string ⟨sa.toArray⟩,.string ⟨la.toArray⟩] 91)).alloc (.cells #[.bool true,.string ⟨sb.toArray⟩,.string ⟨lb.toArray⟩] 91)).alloc (.cells #[.bool false,.string ⟨#[]⟩,.string ⟨#[]⟩] 91)).heap[w.heap.size]?=some (.cells #[.bool true,.string ⟨sa.toArray⟩,.string ⟨la.toArray⟩] 91):=(((But.alloc (fun _=>False) _ _).trans (But.alloc (fun _=>False) _ _)).block _ (by simp) (fun h=>h)).trans (heap_alloc_new w _)
   generalize (((w.alloc (.cells #[.bool true,.string ⟨sa.toArray⟩,.string ⟨la.toArray⟩] 91)).alloc (.cells #[.bool true,.string ⟨sb.toArray⟩,.string ⟨lb.toArray⟩] 91)).alloc (.cells #[.bool false,.string ⟨#[]⟩,.string ⟨#[]⟩] 91))=W at*;refine(qW bi cs sa sb _ (hI.but a8) hw hn b4 b9 HL.out (by omega)).mono ?_;rw[HX.out];rintro en w1 ⟨rfl,a4⟩;replace a0:=a4.kp a0;replace a7:=a4.kp a7;replace a6:=a4.kp a6;have a1:=a8.trans a4;have a2:=ce2 a6;have b2:=ce2 a7;go_wp2_with fail;refine(qW bi cs la lb _ (hI.but a1) hw hn b5 e0 b3.out (by omega)).mono ?_;rw[HY.out];rintro en w2 ⟨rfl,a9⟩;replace a0:=a9.kp a0
   have a5:=a1.trans a9;have r0:=ce0 a0;have r1:=ce1 a0;have r2:=ce2 a0;have f0:w2.frozen? ⟨w.heap.size+2,0,none⟩=false:=frozen_of_row w2 _ 0 _ _ a0;have f1:w2.frozen? ⟨w.heap.size+2,1,none⟩=false:=frozen_of_row w2 _ 1 _ _ a0;have f2:w2.frozen? ⟨w.heap.size+2,2,none⟩=false:=frozen_of_row w2 _ 2 _ _ a0;clear a2 b2;go_wp2_with fail;refine bodyPost_ret (v:= .tuple #[.agg #[.bool true,.string ⟨X.toArray⟩,.string ⟨Y.toArray⟩],.bool true]) (by simp[results,Tryz.results227,go_sem,r0,r1,r2]) rfl ⟨rfl,?_⟩;exact((a5.next (But.setB _ _ _ _) (fun k hk h=>by omega)).next (But.setB _ _ _ _) (fun k hk h=>by omega)).next (But.setB _ _ _ _) (fun k hk h=>by omega)
  ·have t1:((sa.length:Int)!=(sb.length:Int))=true:=by rw[bne_iff_ne];omega
   have a3:jw cs (some (sa,la)) sb lb= .tuple #[.agg #[.bool true,.string ⟨sa.toArray⟩,.string ⟨la.toArray⟩],.bool false]:=by simp[jw,dq,hl,stV]
   rw[a3];simp only[stV];clear hl a3 b0 b1
   go_in
   go_wp2_with fail;refine bodyPost_ret (v:= .tuple #[.agg #[.bool true,.string ⟨sa.toArray⟩,.string ⟨la.toArray⟩],.bool false]) (by simp[results,Tryz.results227,go_sem]) rfl ⟨rfl,?_⟩;exact((But.alloc _ _ _).trans (But.alloc _ _ _)).trans (But.alloc _ _ _)
end
end Go.Proofs.YtpfkkmacakjmbaaGreatDoor
