import Derived.Test.YtpfkkmacakjmbaaGreatDoorP33
import Derived.Test.YtpfkkmacakjmbaaGreatDoorP30
set_option maxRecDepth 100000
set_option maxHeartbeats 6400000
set_option linter.unusedSimpArgs false
set_option linter.unusedVariables false
namespace Go.Proofs.YtpfkkmacakjmbaaGreatDoor
section
open Go Go.RowKit Sp
attribute [local go_sem ↓] Go.wp_at_zero Go.wp_at_succ
def CmB (w:World) (cb:Nat) (c m r vl vi v:Value):Prop:=w.heap[cb]?=some (.cells #[c,m,r,vl,vi,v] 246)
def dL (c:UInt8):XIt:=⟨0,c,45,0,none,0,0⟩
def dm (w:World) (v v':Value):Prop:=v'.ownBlock=v.ownBlock∨ ∃g,v'.ownBlock=some g∧w.heap.size≤g
theorem dm.trans {w w':World} {v v' v'':Value} (h:dm w v v') (h':dm w' v' v'') (hs:w.heap.size≤w'.heap.size):dm w v v'':=by
 rcases h' with e| ⟨g,e,hg⟩
 ·rcases h with h| ⟨g,h,hg⟩
  ·exact Or.inl (e.trans h)
  ·exact Or.inr ⟨g,e.trans h,hg⟩
 ·exact Or.inr ⟨g,e,by omega⟩
theorem dm.own {w:World} {v v':Value} (h:dm w v v') {k:Nat} (hk:k<w.heap.size) (e:v'.ownBlock=some k):v.ownBlock=some k:=by
 rcases h with h| ⟨g,h,hg⟩
 ·exact h▸e
 ·rw[h]at e;have:=Option.some.inj e;omega
theorem CmB.but {F:Nat→Prop} {w w':World} {cb:Nat} {c m r vl vi v:Value} (h:CmB w cb c m r vl vi v) (hb:But F w w') (hf: ¬F cb):CmB w' cb c m r vl vi v:=(hb.block cb (ae h) hf).trans h
theorem CmB.set {w:World} {cb:Nat} {c m r vl vi v:Value} (h:CmB w cb c m r vl vi v) (v':Value):CmB (w.setCell ⟨cb,5,none⟩ v') cb c m r vl vi v':=heap_setCell_same w cb 5 _ _ v' h
section
variable {w:World} {cb base:Nat} {c m r vl vi v:Value} {its:List XIt}
theorem un (h:CmB w cb c m r vl vi v) (hI:ItB w base v its) (hb:base≤w.heap.size) (hl:its.length≤4000) (x:UInt8):
  Calls Tryz.prog 160 #[.pointer (some ⟨cb,0,none⟩),.int .u8 x.toNat] w fun en w'=>en= .returned (.int .i64 its.length)∧But (fun k=>k=cb∨v.ownBlock=some k) w w'∧ ∃v',CmB w' cb c m r vl vi v'∧ItB w' base v' (its++ [dL x])∧dm w v v':=by
 obtain⟨i0,b5,c7,d6,e0⟩:=info_parts gY;have b0:v.ownBlock≠some cb:=fun e=>aN hI h (by decide) e
 obtain⟨ao,cap,rfl⟩:=aq hI;have c5:=ce5 h;have z5:=frozen_of_row w cb 5 _ _ h;have e1:=ae h;have HC:=hid h;have b3:w.ownsRow base 219 5 (.slice ao its.length cap) its.length (bo its):=hI;have b1:=hid b0;clear h hI b0
 go_in
 go_wp2_with (at_builtin;refine wpList_append_lies _ rfl _ _ _ rfl base 219 i0 _ 5 48 (by kernel_rfl) b5 c7 d6 e0 rfl (by omega) _ its.length (bo its) rfl (b3.alloc _) ⟨w.heap.size,0,none⟩ 1 1 [.int .i64 0,.int .u8 x.toNat,.int .u8 45,.int .i64 0,.slice none 0 0] rfl rfl (World.news_of_block (cs:=#[.int .i64 0,.int .u8 x.toNat,.int .u8 45,.int .i64 0,.slice none 0 0]) (t:=219) (fr:=(0,0)) (CB (by simp) _)) (by simp[Value.oneCell']) (by omega) (by unfold maxLen;omega) (by omega) (by simp;omega) (w.heap.size+1) (by simp) ?_);intro gg a2 w5 a1 a0 a8 b6;have a7:But (fun k=>(Value.slice ao its.length cap).ownBlock=some k) w w5:=(But.alloc _ _ _).trans (aX a0)
 have a3:=HC.out.but a7 b1.out;have y5:=ce5 a3;have f5:=frozen_of_row w5 cb 5 _ _ a3;have b4:=ae a3;have a4:=hid a3;have a5:=hid a1;have a6:dm w (.slice ao its.length cap) (.slice (some ⟨gg,0,none⟩) (its.length+1) a2):=a8.imp (fun h=>h.symm) (fun h=>⟨gg,rfl,by omega⟩);have b2:=hid a6;clear c5 z5 a0 a8 a3 a1 HC a6;go_wp2_with fail;have hX:CmB (w5.setCell ⟨cb,5,none⟩ (.slice (some ⟨gg,0,none⟩) (its.length+1) a2)) cb c m r vl vi (.slice (some ⟨gg,0,none⟩) (its.length+1) a2):=a4.out.set _
 exact cB (.int .i64 its.length) Tryz.results160 rfl rfl ⟨rfl,(a7.mono (fun _ _ h=>Or.inr h)).trans ((But.setB _ _ _ _).mono (fun _ _ h=>Or.inl h)),_,hX,by
  unfold ItB;rw[List.length_append,et];exact ah a5.out (But.setB _ _ _ _) (fun g hg e=>aN a5.out a4.out (by decide) (e▸hg)),b2.out⟩
theorem wk {w:World} {base g t n len cap k:Nat} {C:List Value} (h:w.ownsRow base t n (.slice (some ⟨g,0,none⟩) len cap) len C) (y:Value):(w.setCell ⟨g,k,none⟩ y).ownsRow base t n (.slice (some ⟨g,0,none⟩) len cap) len (C.set k y):=by
 rcases h.2 with⟨h1,_⟩ | ⟨g',cap',cur,h1,h2,h3,h4,h5,h6,h7⟩
 ·cases h1
 ·have e1:cap=cap':=congrArg (fun v=>match v with|Value.slice _ _ c=>c|_=>0) h1;have e2:g=g':=congrArg (fun v=>match v with|Value.slice (some a) _ _=>a.block|_=>0) h1;subst e1 e2;refine⟨by rw[List.length_set];exact h.1,Or.inr ⟨g,cap,cur.setIfInBounds k y,rfl,h2,heap_setCell_same w g k _ _ _ h3,by simpa using h4,h5,by simpa using h6,?_⟩⟩;rw[Array.toList_setIfInBounds,List.take_set,h7]
theorem sj (l:List XIt) (j n:Nat) (x:XIt) (hx:l[j]?=some x):bo (l.set j {x with num:=n})=(bo l).set (j*5+3) (.int .i64 n):=by
 induction l generalizing j with
 |nil=>simp at hx
 |cons y l ih=>
  cases j with
  |zero=>
   simp only[List.getElem?_cons_zero,Option.some.injEq]at hx;subst hx;simp[bo]
  |succ j=>
   simp only[List.getElem?_cons_succ]at hx;have:=ih j hx;have e:(j+1)*5+3=j*5+3+5:=by omega
   simp only[bo,List.set_cons_succ,List.flatMap_cons]at this⊢;rw[this,e];simp
theorem zO (h:CmB w cb c m r vl vi v) (hI:ItB w base v its) (j:Nat) (x:XIt) (hx:its[j]?=some x) (hl:its.length≤4000):
  Calls Tryz.prog 241 #[.pointer (some ⟨cb,0,none⟩),.int .i64 j] w fun en w'=>en= .returned (.tuple #[])∧But (fun k=>v.ownBlock=some k) w w'∧CmB w' cb c m r vl vi v∧ItB w' base v (its.set j {x with num:=its.length}):=by
 have hj:=(List.getElem?_eq_some_iff.1 hx).1;have a4:v.ownBlock≠some cb:=fun e=>aN hI h (by decide) e
 have HI:=hid hI;unfold ItB at hI;obtain⟨ai,ci,rfl⟩:=aq hI;obtain⟨g,rfl,a5,a6,a0⟩:=aD hI (by omega);have q3:w.cell? ⟨g,j*5+3,none⟩=some _:=a0 _ _ (aL (k:=3) hx (by omega));obtain⟨cur,a1⟩:=ek hI (g:=g) rfl;have z3:=frozen_of_row w g (j*5+3) _ _ a1;have c5:=ce5 h;have a3:=ae h;have a7:(0:Int)≤(j:Int):=by omega
 have a8:(j:Int)<(its.length:Int):=by omega
 have HC:=hid h;have HX:=hid hx;clear h hI a0 a1 hx
 go_in
 go_wp2_with fail;have a2:But (fun _=>False) w w.drew:=But.drew _ _;refine aB (But (fun _=>False) w) 10 (by kernel_rfl) ?_
 iterate 10 (refine aG (v:=?_) rfl (by kernel_rfl) (fun _ _ _ h=>h) rfl a2 ?_ ?_;rotate_left;(focus (intro wS h;have q0:=(h.kc c5 a3);clear h;go_simp;try rfl));dsimp only[Act.put];try simp only[aK])
 refine ag rfl (by kernel_rfl) ?_;intro KS hKS;go_simp;refine hKS.out _ _ nofun ?_;clear hKS KS;refine ag rfl (by kernel_rfl) ?_;intro KS hKS;go_simp;refine hKS.out _ _ nofun ?_;clear hKS KS;refine ag rfl (by kernel_rfl) ?_;intro KS hKS;go_simp;refine hKS.out _ _ nofun ?_;clear hKS KS;refine aF rfl (by kernel_rfl) ?_;go_end0;have hB:But (fun k=>(Value.slice (some ⟨g,0,none⟩) its.length ci).ownBlock=some k) w (w.setCell ⟨g,j*5+3,none⟩ (.int .i64 its.length)).drew:=((But.setB _ _ _ _).mono (fun _ _ h=>h▸rfl)).trans (But.drew _ _);have hN:=ah (wk (k:=j*5+3) HI.out (.int .i64 its.length)) (But.drew (fun _=>False) _) (fun _ _ h=>h)
 exact⟨rfl,hB,HC.out.but hB a4,by
  unfold ItB;rw[List.length_set,sj _ _ _ _ HX.out];exact hN⟩
end
def yB (w:World) (n:Nat) (en:Ending) (w':World):Prop:= ∃s:ByteArray,en= .returned (.string s)∧s.size≤n∧But (fun _=>False) w w'
theorem jL (v:Value) (l:List UInt8) (f:Nat) (w:World) (hO:BtB w 0 v l) (hl:l.length≤1000) (hf:f≤1000):
  Calls Tryz.prog 158 #[v,.int .i64 f] w (yB w 2000):=by
 obtain⟨av,cv,rfl⟩:=aq hO
 go_in
 go_wp2_with fail;have hE:=BtB.empty w;have a3:But (fun _=>False) w (w.alloc (.cells #[] 5)):=But.alloc _ _ _;revert hE a3;generalize (w.alloc (.cells #[] 5))=W;intro hE a3
 go_loopg [5,6] (f+l.length) (fun mm ss ks wr=> ∃(k:Nat) (ao:Option Addr) (cap:Nat) (s:List UInt8),ss= .slice ao s.length cap∧BtB wr w.heap.size (.slice ao s.length cap) s∧s.length≤k∧ks= .int .i64 k∧k≤f+l.length∧k+mm≤f+l.length+f∧f+l.length≤k+mm∧But (fun _=>False) w wr)
 case atStart=>exact⟨f,_,0,[],rfl,hE,by simp,rfl,by omega,by omega,by omega,a3⟩
 case round=>
  obtain⟨k,ao,cap,s,rfl,hS,e8,rfl,e5,e6,e7,a1⟩:=hrel;have e4:(0:Int)≤(k:Int):=by omega
  by_cases hlt:k<l.length
  ·have b6:(k:Int)<(l.length:Int):=by omega
   have a8:=hO.but a1 (fun _ _ h=>h);obtain⟨g,e1,e2,e3,a0⟩:=aD a8 (by omega);obtain⟨c,hc⟩: ∃c,l[k]=c:=⟨_,rfl⟩;have q0:wr.cell? ⟨g,k,none⟩=some (.int .u8 c.toNat):=a0 _ _ (by simp[aJ,hc,List.getElem?_eq_getElem hlt])
   cases e1
   have b0:=iw wr _ c rfl wr.heap.size rfl;have a7:=hS.but (But.alloc (fun _=>False) _ (.cells #[.int .u8 c.toNat] 5)) (fun _ _ h=>h);have b5:=aj hS;obtain⟨S2,a5⟩: ∃S2,s++ [c]=S2:=⟨_,rfl⟩;have c7:S2.length≤k+1:=by rw[←a5];simp;omega
   have b1:=hid a5;have d6:=a1.size;clear a5 a0 hc a8;go_wp2_with (at_builtin;refine aZ rfl _ _ rfl w.heap.size 0 _ _ s [c] S2 b1 rfl rfl a7 b0 (by omega) (by simp;omega) ?_);intro b2 a2 w3 b4 a6 _;have a4:But (fun k'=>(Value.slice ao s.length cap).ownBlock=some k') wr w3:=(But.alloc _ _ _).trans a6;have b3:But (fun _=>False) w w3:=a1.next a4 (fun k' hk' h=>absurd (b5 k' h) (by omega));clear b0 a7 a6;go_wp2_with fail
   go_roundg (f+l.length-(k+1))
   case measure=>omega
   case rel=>exact⟨k+1,b2,a2,S2,rfl,b4,by omega,by simp,by omega,by omega,by omega,b3⟩
  ·have b6: ¬(k:Int)<(l.length:Int):=by omega
   have e0:=fa hS;go_wp2_with fail;exact cB (.string ⟨s.toArray⟩) Tryz.results158 rfl rfl ⟨_,rfl,by show s.toArray.size≤2000;simp;omega,a1⟩
theorem nt {fn:Func} {Rr:Ending→World→Prop} {a:Act} {w:World} {c:Nat} {s:ByteArray} (hf:fn.results=#[.tmp c]) (hd:a.defers=[]) (hc:a.tmps.getD c undef= .string s) (hR:Rr (.returned (.string s)) w):bodyPost Tryz.prog fn Rr .ret a w:=by
 refine bodyPost_ret (v:= .string s) ?_ hd hR;have a0:a.tmps[c]?.getD undef= .string s:=by simpa using hc
 simp[results,hf,a0,go_sem]
theorem bY (a b:ByteArray):(a++b).size=a.size+b.size:=by simp
theorem fc (n:Nat) (h:n≤5000) (w:World) (ht:eP w):Calls Tryz.prog 181 #[.int .i64 n] w (yB w 30):=by
 refine(xP n (by omega) (by omega) w ht).mono ?_;rintro en w1 ⟨rfl,hB⟩;refine⟨_,rfl,?_,hB⟩;have:=Lib.itoa_length_le (n:Int) (by omega) (by omega)
 show(Lib.itoa n).toArray.size≤30
 simp;omega
theorem nw (x:XIt) (w:World) (ht:eP w) (hn:x.num≤3000):Calls Tryz.prog 162 #[cI x] w (yB w 100):=by
 have HT:=hid ht;obtain⟨pl,op,cl,n,pa,pn,pc⟩:=x;dsimp only at hn;unfold cI;obtain⟨S1,e6,z1⟩: ∃S1:ByteArray,(∀(W:World) (g:Nat),W.heap.size=g→(convert 112 9 (.slice (some ⟨g,0,none⟩) 1 1)).run Tryz.prog (W.alloc (.cells #[.int .u8 op.toNat] 5))= .ok (.string S1) (W.alloc (.cells #[.int .u8 op.toNat] 5)))∧S1.size=1:=⟨⟨#[op]⟩,fun W g h=>h▸qp op W,rfl⟩;obtain⟨S2,e7,z2⟩: ∃S2:ByteArray,(∀(W:World) (g:Nat),W.heap.size=g→(convert 112 9 (.slice (some ⟨g,0,none⟩) 1 1)).run Tryz.prog (W.alloc (.cells #[.int .u8 cl.toNat] 5))= .ok (.string S2) (W.alloc (.cells #[.int .u8 cl.toNat] 5)))∧S2.size=1:=⟨⟨#[cl]⟩,fun W g h=>h▸qp cl W,rfl⟩
 have f1:S1.size+S2.size≤200000:=by omega
 have HZ:=hid (And.intro z1 z2);have hX:(w.alloc (.cells #[.int .i64 pl,.int .u8 op.toNat,.int .u8 cl.toNat,.int .i64 n,.slice pa pn pc] 219)).heap[w.heap.size]?=some (.cells #[.int .i64 pl,.int .u8 op.toNat,.int .u8 cl.toNat,.int .i64 n,.slice pa pn pc] 219):=heap_alloc_new w _;have hB:But (fun _=>False) w (w.alloc (.cells #[.int .i64 pl,.int .u8 op.toNat,.int .u8 cl.toNat,.int .i64 n,.slice pa pn pc] 219)):=But.alloc _ _ _;have e0:(op.toNat=110∨op.toNat=120∨(op.toNat≠110∧op.toNat≠120∧op.toNat≠103∧op.toNat≠112∧op.toNat≠99∧op.toNat≠107∧op.toNat≠108∧op.toNat≠115∧op.toNat≠106∧op.toNat≠102))∨(op.toNat=107∨op.toNat=108∨op.toNat=115∨op.toNat=103∨op.toNat=112∨op.toNat=99)∨(op.toNat=106∨op.toNat=102):=by omega
 clear ht z1 z2;obtain⟨x0,x1,x2,x3,x4⟩:=bc hX;have c7:=ae hX;have HB:=hid hB;clear hB hX
 go_in
 rcases e0 with h|h|h
 ·rcases h with h|h|h
  all_goals
   first|have a7:=aM (c:=op) 110 (by omega) |have a7:=aV (c:=op) 110 (by omega)
   first|have b1:=aM (c:=op) 120 (by omega) |have b1:=aV (c:=op) 120 (by omega)
   first|have a3:=aM (c:=op) 103 (by omega) |have a3:=aV (c:=op) 103 (by omega)
   first|have a8:=aM (c:=op) 112 (by omega) |have a8:=aV (c:=op) 112 (by omega)
   first|have b3:=aM (c:=op) 99 (by omega) |have b3:=aV (c:=op) 99 (by omega)
   first|have a5:=aM (c:=op) 107 (by omega) |have a5:=aV (c:=op) 107 (by omega)
   first|have a6:=aM (c:=op) 108 (by omega) |have a6:=aV (c:=op) 108 (by omega)
   first|have b0:=aM (c:=op) 115 (by omega) |have b0:=aV (c:=op) 115 (by omega)
   first|have a4:=aM (c:=op) 106 (by omega) |have a4:=aV (c:=op) 106 (by omega)
   first|have a2:=aM (c:=op) 102 (by omega) |have a2:=aV (c:=op) 102 (by omega)
   clear h;go_wp2_with fail
  all_goals exact nt Tryz.results162 rfl rfl ⟨_,rfl,by have:=HZ.out;(try simp only[bY]);omega,by first|exact(HB.out.trans (But.alloc _ _ _)).trans (But.alloc _ _ _) |exact HB.out.trans (But.alloc _ _ _)⟩
 ·rcases h with h|h|h|h|h|h
  all_goals
   first|have a7:=aM (c:=op) 110 (by omega) |have a7:=aV (c:=op) 110 (by omega)
   first|have b1:=aM (c:=op) 120 (by omega) |have b1:=aV (c:=op) 120 (by omega)
   first|have a3:=aM (c:=op) 103 (by omega) |have a3:=aV (c:=op) 103 (by omega)
   first|have a8:=aM (c:=op) 112 (by omega) |have a8:=aV (c:=op) 112 (by omega)
   first|have b3:=aM (c:=op) 99 (by omega) |have b3:=aV (c:=op) 99 (by omega)
   first|have a5:=aM (c:=op) 107 (by omega) |have a5:=aV (c:=op) 107 (by omega)
   first|have a6:=aM (c:=op) 108 (by omega) |have a6:=aV (c:=op) 108 (by omega)
   first|have b0:=aM (c:=op) 115 (by omega) |have b0:=aV (c:=op) 115 (by omega)
   first|have a4:=aM (c:=op) 106 (by omega) |have a4:=aV (c:=op) 106 (by omega)
   first|have a2:=aM (c:=op) 102 (by omega) |have a2:=aV (c:=op) 102 (by omega)
   clear h;go_wp2_with fail;refine(fc n (by omega) _ (HT.out.but (by first|exact(HB.out.trans (But.alloc _ _ _)).trans (But.alloc _ _ _) |exact HB.out.trans (But.alloc _ _ _)))).mono ?_;rintro en w1 ⟨S3,rfl,z3,b6⟩;have e2:=hid b6;have f2:S1.size+S3.size≤200000:=by have:=HZ.out;omega
   have e4:S1.size+S2.size+S3.size≤200000:=by have:=HZ.out;omega
   clear b6;go_wp2_with fail
  all_goals exact nt Tryz.results162 rfl rfl ⟨_,rfl,by have:=HZ.out;(try simp only[bY]);omega,by first|exact((HB.out.trans (But.alloc _ _ _)).trans (But.alloc _ _ _)).trans e2.out|exact(HB.out.trans (But.alloc _ _ _)).trans e2.out⟩
 ·obtain⟨q,hq,e8⟩: ∃q:Nat,Int.tdiv (n:Int) 10=(q:Int)∧q≤3000:=⟨n / 10,(Int.ofNat_tdiv n 10).symm,by omega⟩;obtain⟨r,hr,e9⟩: ∃r:Nat,Int.tmod (n:Int) 10=(r:Int)∧r≤3000:=⟨n % 10,(Int.ofNat_tmod n 10).symm,by omega⟩;have f0:=dj (q:Int) (by omega) (by omega);have e3:=dj (r:Int) (by omega) (by omega);rcases h with h|h
  ·skip
   first|have a7:=aM (c:=op) 110 (by omega) |have a7:=aV (c:=op) 110 (by omega)
   first|have b1:=aM (c:=op) 120 (by omega) |have b1:=aV (c:=op) 120 (by omega)
   first|have a3:=aM (c:=op) 103 (by omega) |have a3:=aV (c:=op) 103 (by omega)
   first|have a8:=aM (c:=op) 112 (by omega) |have a8:=aV (c:=op) 112 (by omega)
   first|have b3:=aM (c:=op) 99 (by omega) |have b3:=aV (c:=op) 99 (by omega)
   first|have a5:=aM (c:=op) 107 (by omega) |have a5:=aV (c:=op) 107 (by omega)
   first|have a6:=aM (c:=op) 108 (by omega) |have a6:=aV (c:=op) 108 (by omega)
   first|have b0:=aM (c:=op) 115 (by omega) |have b0:=aV (c:=op) 115 (by omega)
   first|have a4:=aM (c:=op) 106 (by omega) |have a4:=aV (c:=op) 106 (by omega)
   first|have a2:=aM (c:=op) 102 (by omega) |have a2:=aV (c:=op) 102 (by omega)
   clear h;go_wp2_with fail;obtain⟨W,hW⟩: ∃W,(w.alloc (.cells #[.int .i64 pl,.int .u8 op.toNat,.int .u8 cl.toNat,.int .i64 n,.slice pa pn pc] 219)).alloc (.cells #[.int .u8 op.toNat] 5)=W:=⟨_,rfl⟩;have b4:But (fun _=>False) w W:=hW▸HB.out.trans (But.alloc _ _ _);have x3W:W.cell? ⟨w.heap.size,3,none⟩=some (.int .i64 n):=hW▸(But.alloc (fun _=>False) _ _).kc x3 c7;have a0:w.heap.size<W.heap.size:=by rw[←hW];simp;omega
   rw[hW];clear hW x0 x1 x2 x3 x4 c7 HB;have a1:But (fun _=>False) W W.drew:=But.drew _ _;refine ck (But (fun _=>False) W) 11 (by kernel_rfl) ?_;refine ay (k:=0) (v:= ?vA0) rfl (by decide) (by kernel_rfl) (fun _ _ _ h=>h) rfl a1 ?yA0 ?rA0
   case yA0=>intro wS h;have q0:=(h.kc x3W a0);clear h;go_simp;try rfl
   dsimp only[Act.put]
   try simp only[aK]
   refine ay (k:=1) (v:= ?vA1) rfl (by decide) (by kernel_rfl) (fun _ _ _ h=>h) rfl a1 ?yA1 ?rA1
   case yA1=>intro wS h;have q0:=(h.kc x3W a0);clear h;go_simp;try rfl
   dsimp only[Act.put]
   try simp only[aK]
   refine ay (k:=2) (v:= ?vA2) rfl (by decide) (by kernel_rfl) (fun _ _ _ h=>h) rfl a1 ?yA2 ?rA2
   case yA2=>intro wS h;have q0:=(h.kc x3W a0);clear h;go_simp;try rfl
   dsimp only[Act.put]
   try simp only[aK]
   refine ay (k:=3) (v:= ?vA3) rfl (by decide) (by kernel_rfl) (fun _ _ _ h=>h) rfl a1 ?yA3 ?rA3
   case yA3=>intro wS h;have q0:=(h.kc x3W a0);clear h;go_simp;try rfl
   dsimp only[Act.put]
   try simp only[aK]
   refine ay (k:=5) (v:= ?vA5) rfl (by decide) (by kernel_rfl) (fun _ _ _ h=>h) rfl a1 ?yA5 ?rA5
   case yA5=>intro wS h;have q0:=(h.kc x3W a0);clear h;go_simp;try rfl
   dsimp only[Act.put]
   try simp only[aK]
   refine ay (k:=6) (v:= ?vA6) rfl (by decide) (by kernel_rfl) (fun _ _ _ h=>h) rfl a1 ?yA6 ?rA6
   case yA6=>intro wS h;have q0:=(h.kc x3W a0);clear h;go_simp;try rfl
   dsimp only[Act.put]
   try simp only[aK]
   refine ay (k:=7) (v:= ?vA7) rfl (by decide) (by kernel_rfl) (fun _ _ _ h=>h) rfl a1 ?yA7 ?rA7
   case yA7=>intro wS h;have q0:=(h.kc x3W a0);clear h;go_simp;try rfl
   dsimp only[Act.put]
   try simp only[aK]
   refine aA (k:=4) rfl (by decide) (by kernel_rfl) ?_;intro KS hKS;go_simp;refine(fc q (by omega) _ (HT.out.but (b4.trans a1))).mono ?_;rintro en w1 ⟨S3,rfl,z3,b6⟩;have b5:=a1.trans b6;refine hKS.out _ _ (fun _=>b5) ?_;clear hKS KS;refine aA (k:=8) rfl (by decide) (by kernel_rfl) ?_;intro KS hKS;go_simp;refine(fc r (by omega) _ (HT.out.but (b4.trans b5))).mono ?_;rintro en w2 ⟨S4,rfl,z4,d6⟩;have b2:=b5.trans d6;refine hKS.out _ _ (fun _=>b2) ?_;clear hKS KS;have e5:S3.size+S4.size≤200000:=by omega
   have e1:S1.size+(S3.size+S4.size)≤200000:=by have:=HZ.out;omega
   refine aA (k:=9) rfl (by decide) (by kernel_rfl) ?_;intro KS hKS;go_simp;rw[if_neg (by omega)];refine hKS.out _ _ (fun _=>b2) ?_;clear hKS KS;refine aA (k:=10) rfl (by decide) (by kernel_rfl) ?_;intro KS hKS;go_simp;rw[if_neg (by omega)];refine hKS.out _ _ (fun _=>b2) ?_;clear hKS KS;refine aA (k:=11) rfl (by decide) (by kernel_rfl) ?_;intro KS hKS;go_simp;refine hKS.out _ _ nofun ?_;clear hKS KS;refine b7 rfl (by kernel_rfl) ?_;go_wp2_with fail;exact nt Tryz.results162 rfl rfl ⟨_,rfl,by have:=HZ.out;simp only[bY];omega,b4.trans b2⟩
  ·skip
   first|have a7:=aM (c:=op) 110 (by omega) |have a7:=aV (c:=op) 110 (by omega)
   first|have b1:=aM (c:=op) 120 (by omega) |have b1:=aV (c:=op) 120 (by omega)
   first|have a3:=aM (c:=op) 103 (by omega) |have a3:=aV (c:=op) 103 (by omega)
   first|have a8:=aM (c:=op) 112 (by omega) |have a8:=aV (c:=op) 112 (by omega)
   first|have b3:=aM (c:=op) 99 (by omega) |have b3:=aV (c:=op) 99 (by omega)
   first|have a5:=aM (c:=op) 107 (by omega) |have a5:=aV (c:=op) 107 (by omega)
   first|have a6:=aM (c:=op) 108 (by omega) |have a6:=aV (c:=op) 108 (by omega)
   first|have b0:=aM (c:=op) 115 (by omega) |have b0:=aV (c:=op) 115 (by omega)
   first|have a4:=aM (c:=op) 106 (by omega) |have a4:=aV (c:=op) 106 (by omega)
   first|have a2:=aM (c:=op) 102 (by omega) |have a2:=aV (c:=op) 102 (by omega)
   clear h;go_wp2_with fail;obtain⟨W,hW⟩: ∃W,(w.alloc (.cells #[.int .i64 pl,.int .u8 op.toNat,.int .u8 cl.toNat,.int .i64 n,.slice pa pn pc] 219)).alloc (.cells #[.int .u8 op.toNat] 5)=W:=⟨_,rfl⟩;have b4:But (fun _=>False) w W:=hW▸HB.out.trans (But.alloc _ _ _);have x3W:W.cell? ⟨w.heap.size,3,none⟩=some (.int .i64 n):=hW▸(But.alloc (fun _=>False) _ _).kc x3 c7;have a0:w.heap.size<W.heap.size:=by rw[←hW];simp;omega
   rw[hW];clear hW x0 x1 x2 x3 x4 c7 HB;have a1:But (fun _=>False) W W.drew:=But.drew _ _;refine ck (But (fun _=>False) W) 11 (by kernel_rfl) ?_;refine ay (k:=0) (v:= ?vB0) rfl (by decide) (by kernel_rfl) (fun _ _ _ h=>h) rfl a1 ?yB0 ?rB0
   case yB0=>intro wS h;have q0:=(h.kc x3W a0);clear h;go_simp;try rfl
   dsimp only[Act.put]
   try simp only[aK]
   refine ay (k:=1) (v:= ?vB1) rfl (by decide) (by kernel_rfl) (fun _ _ _ h=>h) rfl a1 ?yB1 ?rB1
   case yB1=>intro wS h;have q0:=(h.kc x3W a0);clear h;go_simp;try rfl
   dsimp only[Act.put]
   try simp only[aK]
   refine ay (k:=2) (v:= ?vB2) rfl (by decide) (by kernel_rfl) (fun _ _ _ h=>h) rfl a1 ?yB2 ?rB2
   case yB2=>intro wS h;have q0:=(h.kc x3W a0);clear h;go_simp;try rfl
   dsimp only[Act.put]
   try simp only[aK]
   refine ay (k:=3) (v:= ?vB3) rfl (by decide) (by kernel_rfl) (fun _ _ _ h=>h) rfl a1 ?yB3 ?rB3
   case yB3=>intro wS h;have q0:=(h.kc x3W a0);clear h;go_simp;try rfl
   dsimp only[Act.put]
   try simp only[aK]
   refine ay (k:=5) (v:= ?vB5) rfl (by decide) (by kernel_rfl) (fun _ _ _ h=>h) rfl a1 ?yB5 ?rB5
   case yB5=>intro wS h;have q0:=(h.kc x3W a0);clear h;go_simp;try rfl
   dsimp only[Act.put]
   try simp only[aK]
   refine ay (k:=6) (v:= ?vB6) rfl (by decide) (by kernel_rfl) (fun _ _ _ h=>h) rfl a1 ?yB6 ?rB6
   case yB6=>intro wS h;have q0:=(h.kc x3W a0);clear h;go_simp;try rfl
   dsimp only[Act.put]
   try simp only[aK]
   refine ay (k:=7) (v:= ?vB7) rfl (by decide) (by kernel_rfl) (fun _ _ _ h=>h) rfl a1 ?yB7 ?rB7
   case yB7=>intro wS h;have q0:=(h.kc x3W a0);clear h;go_simp;try rfl
   dsimp only[Act.put]
   try simp only[aK]
   refine aA (k:=4) rfl (by decide) (by kernel_rfl) ?_;intro KS hKS;go_simp;refine(fc q (by omega) _ (HT.out.but (b4.trans a1))).mono ?_;rintro en w1 ⟨S3,rfl,z3,b6⟩;have b5:=a1.trans b6;refine hKS.out _ _ (fun _=>b5) ?_;clear hKS KS;refine aA (k:=8) rfl (by decide) (by kernel_rfl) ?_;intro KS hKS;go_simp;refine(fc r (by omega) _ (HT.out.but (b4.trans b5))).mono ?_;rintro en w2 ⟨S4,rfl,z4,d6⟩;have b2:=b5.trans d6;refine hKS.out _ _ (fun _=>b2) ?_;clear hKS KS;have e5:S3.size+S4.size≤200000:=by omega
   have e1:S1.size+(S3.size+S4.size)≤200000:=by have:=HZ.out;omega
   refine aA (k:=9) rfl (by decide) (by kernel_rfl) ?_;intro KS hKS;go_simp;rw[if_neg (by omega)];refine hKS.out _ _ (fun _=>b2) ?_;clear hKS KS;refine aA (k:=10) rfl (by decide) (by kernel_rfl) ?_;intro KS hKS;go_simp;rw[if_neg (by omega)];refine hKS.out _ _ (fun _=>b2) ?_;clear hKS KS;refine aA (k:=11) rfl (by decide) (by kernel_rfl) ?_;intro KS hKS;go_simp;refine hKS.out _ _ nofun ?_;clear hKS KS;refine b7 rfl (by kernel_rfl) ?_;go_wp2_with fail;exact nt Tryz.results162 rfl rfl ⟨_,rfl,by have:=HZ.out;simp only[bY];omega,b4.trans b2⟩
def fj (x:XIt):List XIt:=⟨0,x.op,x.cls,x.num,none,0,0⟩::if x.op.toNat=115∨x.op.toNat=112∨x.op.toNat=119 then [dL 107]else []
section
variable {w:World} {cb base:Nat} {c m r vl vi v:Value} {its:List XIt}
theorem yC (h:CmB w cb c m r vl vi v) (hI:ItB w base v its) (hb:base≤w.heap.size) (hl:its.length≤3900) (x:XIt):
  Calls Tryz.prog 213 #[.pointer (some ⟨cb,0,none⟩),cI x] w fun en w'=>en= .returned (.tuple #[])∧But (fun k=>k=cb∨v.ownBlock=some k) w w'∧ ∃v',CmB w' cb c m r vl vi v'∧ItB w' base v' (its++fj x)∧dm w v v':=by
 obtain⟨i0,f3,f7,f8,g0⟩:=info_parts gY;have b6:v.ownBlock≠some cb:=fun e=>aN hI h (by decide) e
 obtain⟨ao,cap,rfl⟩:=aq hI;obtain⟨W,hW⟩: ∃W,w.alloc (.cells #[.int .i64 x.place,.int .u8 x.op.toNat,.int .u8 x.cls.toNat,.int .i64 x.num,.slice x.pa x.pn x.pc] 219)=W:=⟨_,rfl⟩;have b0:But (fun _=>False) w W:=hW▸But.alloc _ _ _;have hX:W.heap[w.heap.size]?=some (.cells #[.int .i64 x.place,.int .u8 x.op.toNat,.int .u8 x.cls.toNat,.int .i64 x.num,.slice x.pa x.pn x.pc] 219):=hW▸heap_alloc_new w _;have hC:=h.but b0 (fun h=>h);have e5:W.ownsRow base 219 5 (.slice ao its.length cap) its.length (bo its):=ah hI b0 (fun _ _ h=>h);have f5: ∀k,(Value.slice ao its.length cap).ownBlock=some k→k<w.heap.size:=fun k hk=>aS hI k hk
 have g2:=b0.size;have g1:=ae h;clear h hI;unfold cI
 go_in
 go_wp2_with fail
 try rw[hW]
 clear hW;obtain⟨x0,x1,x2,x3,x4⟩:=bc hX;have b4:=ae hX;have c5:=ce5 hC;have z5:=frozen_of_row W cb 5 _ _ hC;have e1:=ae hC;have HC:=hid hC;have HX:=hid hX;have e2:=hid b0;have nx:(Value.slice ao its.length cap).ownBlock≠some w.heap.size:=fun e=>by have:=f5 _ e;omega
 clear hC hX b0;have f2:But (fun k=>(Value.slice ao its.length cap).ownBlock=some k) W W.drew:=But.drew _ _;refine aB (But (fun k=>(Value.slice ao its.length cap).ownBlock=some k) W) 14 (by kernel_rfl) ?_
 iterate 12 (refine aG (v:=?_) rfl (by kernel_rfl) (fun _ _ _ h=>h) rfl f2 ?_ ?_;rotate_left;(focus (intro wS h;have q0:=((h.cell (p:=⟨cb,5,none⟩) e1 b6).trans c5);have q1:=((h.cell (p:=⟨w.heap.size,1,none⟩) b4 nx).trans x1);have q2:=((h.cell (p:=⟨w.heap.size,2,none⟩) b4 nx).trans x2);have q3:=((h.cell (p:=⟨w.heap.size,3,none⟩) b4 nx).trans x3);clear h;go_simp;try rfl));dsimp only[Act.put];try simp only[aK])
 refine ag rfl (by kernel_rfl) ?_;intro KS hKS;go_simp;refine hKS.out _ _ (fun _=>(But.alloc _ _ _).trans (But.drew _ _)) ?_;clear hKS KS;refine ag rfl (by kernel_rfl) ?_;intro KS hKS
 refine step_append_lies _ (by rfl) _ _ _ (by rfl) base 219 i0 _ 5 48 (by kernel_rfl) f3 f7 f8 g0 rfl (by omega) _ its.length (bo its) (by rfl) ((e5.alloc _).drew)
    ⟨W.heap.size,0,none⟩ 1 1 [.int .i64 0,.int .u8 x.op.toNat,.int .u8 x.cls.toNat,.int .i64 x.num,.slice none 0 0] (by rfl) (by rfl) (World.news_of_block (cs:=#[.int .i64 0,.int .u8 x.op.toNat,.int .u8 x.cls.toNat,.int .i64 x.num,.slice none 0 0]) (t:=219) (fr:=(0,0)) (heap_alloc_new W _)) (by simp[Value.oneCell'])
    (by omega) (by unfold maxLen;omega) (by omega) (by simp;omega) (W.heap.size+1) (by simp) ?_
 intro gg a0 w4 a1 a4 e6 f6;have a3:But (fun k=>(Value.slice ao its.length cap).ownBlock=some k) W w4:=((But.alloc _ _ _).trans (But.drew _ _)).trans (aX a4);refine hKS.out _ _ (fun _=>a3) ?_;clear hKS KS;have y0:=(a3.cell (p:=⟨cb,5,none⟩) e1 b6).trans c5;have y1:=(a3.frozen (p:=⟨cb,5,none⟩) e1 b6).trans z5;refine ag rfl (by kernel_rfl) ?_;intro KS hKS;go_simp;refine hKS.out _ _ nofun ?_;clear hKS KS;refine ag rfl (by kernel_rfl) ?_;intro KS hKS;go_simp;refine hKS.out _ _ nofun ?_;clear hKS KS;refine ag rfl (by kernel_rfl) ?_;intro KS hKS;go_simp;refine hKS.out _ _ nofun ?_;clear hKS KS;refine aF rfl (by kernel_rfl) ?_
 have e0:=HC.out.but a3 b6;have b1:=e0.set (.slice (some ⟨gg,0,none⟩) (its.length+1) a0);have a2:But (· =cb) w4 (w4.setCell ⟨cb,5,none⟩ (.slice (some ⟨gg,0,none⟩) (its.length+1) a0)):=But.setB _ _ _ _
 have b2:ItB (w4.setCell ⟨cb,5,none⟩ (.slice (some ⟨gg,0,none⟩) (its.length+1) a0)) base (.slice (some ⟨gg,0,none⟩) (its.length+1) a0) (its++ [⟨0,x.op,x.cls,x.num,none,0,0⟩]):=by
  unfold ItB;rw[List.length_append,et];exact ah a1 a2 (fun g hg e=>aN a1 e0 (by decide) (e▸hg))
 have b5:=(a2.block w.heap.size (Nat.lt_of_lt_of_le b4 a3.size) (by show¬w.heap.size=cb;omega)).trans ((a3.block _ b4 nx).trans HX.out);have b3:dm w (.slice ao its.length cap) (.slice (some ⟨gg,0,none⟩) (its.length+1) a0):=e6.imp (fun h=>h.symm) (fun h=>⟨gg,rfl,by omega⟩);have a8:But (fun k=>k=cb∨(Value.slice ao its.length cap).ownBlock=some k) w (w4.setCell ⟨cb,5,none⟩ (.slice (some ⟨gg,0,none⟩) (its.length+1) a0)):=((e2.out.mono (fun _ _ h=>h.elim)).trans (a3.mono (fun _ _ h=>Or.inr h))).trans (a2.mono (fun _ _ h=>Or.inl h));clear y0 y1 a1 a4 a3 a2 e0 c5 z5 x0 x1 x2 x3 x4 e6 HC HX e2;revert b1 b2 b5 a8
 generalize (w4.setCell ⟨cb,5,none⟩ (.slice (some ⟨gg,0,none⟩) (its.length+1) a0))=W5;intro b1 b2 b5 a8;have x1:=ce1 b5;have f4:(its++ [(⟨0,x.op,x.cls,x.num,none,0,0⟩:XIt)]).length≤4000:=by simp;omega
 have e3:=hid (un b1 b2 (Nat.le_trans hb a8.size) f4 107);have e7:=hid b1;have e8:=hid b2;have c7:=hid b3;have d6:=hid a8;clear b1 b2 b5 a8 b3 e5
 by_cases hk:x.op.toNat=115∨x.op.toNat=112∨x.op.toNat=119
 ·have hL:fj x=[⟨0,x.op,x.cls,x.num,none,0,0⟩,dL 107]:=by unfold fj;rw[if_pos hk]
  have HL:=hid hL;clear hL;rcases hk with h|h|h
  all_goals
   first|have a6:=aM (c:=x.op) 115 (by omega) |have a6:=aV (c:=x.op) 115 (by omega)
   first|have a5:=aM (c:=x.op) 112 (by omega) |have a5:=aV (c:=x.op) 112 (by omega)
   first|have a7:=aM (c:=x.op) 119 (by omega) |have a7:=aV (c:=x.op) 119 (by omega)
   clear h;go_wp2_with fail;refine e3.out.mono ?_;rintro en w6 ⟨rfl,e9,v6,f0,e4,f1⟩;have hB:=d6.out.next e9 (fun k hk h=>h.imp id (fun h=>c7.out.own hk h));have hN:=c7.out.trans f1 d6.out.size;rw[List.append_assoc]at e4;go_wp2_with fail;go_end0;exact⟨rfl,hB,v6,f0,by rw[HL.out];exact e4,hN⟩
 ·have hL:fj x=[⟨0,x.op,x.cls,x.num,none,0,0⟩]:=by unfold fj;rw[if_neg hk]
  have HL:=hid hL;have a6:=aM (c:=x.op) 115 (by omega);have a5:=aM (c:=x.op) 112 (by omega);have a7:=aM (c:=x.op) 119 (by omega);clear hL hk e3;go_wp2_with fail;go_end0;exact⟨rfl,d6.out,_,e7.out,by rw[HL.out];exact e8.out,c7.out⟩
end
structure CmS (w0 w:World) (cb:Nat) (X:ba) (vl vi v:Value) (l:List XIt):Prop where
 old:But (fun _=>False) w0 w
 blk:CmB w cb (.int .u8 X.cls.toNat) (.int .i64 X.meth) (.int .u8 X.ans.toNat) vl vi v
 its:ItB w w0.heap.size v l
 new:w0.heap.size≤cb
def CmR (w0 w:World) (cb:Nat) (X:ba) (vl vi v:Value) (l:List XIt) (en:Ending) (w':World):Prop:=en= .returned (.tuple #[])∧But (fun k=>k=cb∨v.ownBlock=some k) w w'∧ ∃v',CmS w0 w' cb X vl vi v' l∧dm w v v'
theorem dm.refl (w:World) (v:Value):dm w v v:=Or.inl rfl
theorem dm.off {w:World} {v v':Value} (h:dm w v v') {k:Nat} (hk:k<w.heap.size) (hn:v.ownBlock≠some k):v'.ownBlock≠some k:=fun e=>hn (h.own hk e)
theorem dm.mono {w w':World} {v v':Value} (h:dm w' v v') (hs:w.heap.size≤w'.heap.size):dm w v v':=h.imp id (fun⟨g,e,hg⟩=>⟨g,e,by omega⟩)
section
variable {w0 w w':World} {cb:Nat} {X:ba} {vl vi v:Value} {l:List XIt}
theorem CmS.ge (h:CmS w0 w cb X vl vi v l): ∀k,k<w0.heap.size→ ¬(k=cb∨v.ownBlock=some k):=fun k hk e=>by
 have:=h.new;rcases e with e|e
 ·omega
 ·have:=aj h.its k e;omega
theorem CmS.lay (h:CmS w0 w cb X vl vi v l) (hl:l.length≤4000) (x:UInt8):
  Calls Tryz.prog 160 #[.pointer (some ⟨cb,0,none⟩),.int .u8 x.toNat] w fun en w'=>en= .returned (.int .i64 l.length)∧But (fun k=>k=cb∨v.ownBlock=some k) w w'∧ ∃v',CmS w0 w' cb X vl vi v' (l++ [dL x])∧dm w v v':=by
 refine(un h.blk h.its h.old.size hl x).mono ?_;rintro en w1 ⟨rfl,hB,v',hC,hI,hN⟩;exact⟨rfl,hB,v',⟨h.old.next hB (fun k hk e=>h.ge k hk e),hC,hI,h.new⟩,hN⟩
theorem CmS.aim (h:CmS w0 w cb X vl vi v l) (j:Nat) (x:XIt) (hx:l[j]?=some x) (hl:l.length≤4000):
  Calls Tryz.prog 241 #[.pointer (some ⟨cb,0,none⟩),.int .i64 j] w (CmR w0 w cb X vl vi v (l.set j {x with num:=l.length})):=by
 refine(zO h.blk h.its j x hx hl).mono ?_;rintro en w1 ⟨rfl,hB,hC,hI⟩;exact⟨rfl,hB.mono (fun _ _ h=>Or.inr h),v,⟨h.old.next hB (fun k hk e=>h.ge k hk (Or.inr e)),hC,hI,h.new⟩,dm.refl _ _⟩
theorem CmS.last (h:CmS w0 w cb X vl vi v l) (hl:l.length≤3900) (x:XIt):
  Calls Tryz.prog 213 #[.pointer (some ⟨cb,0,none⟩),cI x] w (CmR w0 w cb X vl vi v (l++fj x)):=by
 refine(yC h.blk h.its h.old.size hl x).mono ?_;rintro en w1 ⟨rfl,hB,v',hC,hI,hN⟩;exact⟨rfl,hB,v',⟨h.old.next hB (fun k hk e=>h.ge k hk e),hC,hI,h.new⟩,hN⟩
theorem CmS.step (h:CmS w0 w cb X vl vi v l) (hB:But (fun _=>False) w w'):CmS w0 w' cb X vl vi v l:=
 ⟨h.old.trans hB,h.blk.but hB (fun h=>h),ah h.its hB (fun _ _ h=>h),h.new⟩
theorem tL (h:CmS w0 w cb X vl vi v l) (x:XIt) (k:Nat) (hk:x.pn≤k) (hk3:k≤3):
  Calls Tryz.prog 210 #[.pointer (some ⟨cb,0,none⟩),cI x,.int .i64 k] w (CmR w0 w cb X vl vi v l):=by
 have HH:=hid h;have k1:(0:Int)≤(k:Int):=by omega
 have k2: ¬((k:Int)<(x.pn:Int)):=by omega
 clear h;unfold cI
 go_in
 go_wp2_with fail;go_end0;exact⟨rfl,But.alloc _ _ _,v,HH.out.step (But.alloc _ _ _),dm.refl _ _⟩
theorem yD (h:CmS w0 w cb X vl vi v l) (x:XIt) (k j:Nat) (hk3:k≤3) (ps:List Nat) (hk:ps[k]?=some j) (hrow:w0.ownsRow 0 3 1 (.slice x.pa x.pn x.pc) ps.length (dy ps)) (hps:ps.length≤3) (l':List XIt)
  (IH: ∀Y,CmS w0 Y cb X vl vi v l→Calls Tryz.prog 159 #[.pointer (some ⟨cb,0,none⟩),.int .i64 j] Y (CmR w0 Y cb X vl vi v l')):
  Calls Tryz.prog 210 #[.pointer (some ⟨cb,0,none⟩),cI x,.int .i64 k] w (CmR w0 w cb X vl vi v l'):=by
 obtain⟨pl,op,cl,n,pa,pn,pc⟩:=x;have a5:=(List.getElem?_eq_some_iff.1 hk).1;dsimp only at hrow;obtain⟨a',cap',a2⟩:=aq hrow;injection a2 with e1 e2 e3;subst e1 e2 e3;obtain⟨g,rfl,a1,a3,a0⟩:=aD hrow (by omega);have q0:w0.cell? ⟨g,k,none⟩=some (.int .i64 j):=a0 _ _ (by simp[dy,hk]);replace q0:=h.old.kc q0 a1;replace a1:=Nat.lt_of_lt_of_le a1 h.old.size;have HC:=hid (fun Y (hY:But (fun _=>False) w Y)=>IH Y (h.step hY));have k1:(0:Int)≤(k:Int):=by omega
 have k3:(k:Int)<(ps.length:Int):=by omega
 have a4:g<w.heap.size+1:=by omega
 clear h hk hrow a0 IH;generalize ps.length=np at*;unfold cI
 go_in
 go_wp2_with fail;refine(HC.out _ (But.alloc _ _ _)).mono ?_;rintro en w1 ⟨rfl,hB,v',hS,hN⟩;have HR:=hid (show But (fun k=>k=cb∨v.ownBlock=some k) w w1∧ ∃v',CmS w0 w1 cb X vl vi v' l'∧dm w v v' from⟨(But.alloc _ _ _).trans hB,v',hS,hN.mono (by simp)⟩);clear hB hS hN HC;go_wp2_with fail;go_end0;exact⟨rfl,HR.out⟩
end
def aimX (j:Nat) (l:List XIt):List XIt:=match l[j]? with
 |some x=>l.set j {x with num:=l.length}
 |none=>l
theorem dW (j:Nat) (l:List XIt):(aimX j l).length=l.length:=by
 unfold aimX
 split<;>simp
def iC (p:Nat→List XIt→List XIt) (l:List XIt):List XIt:=
 aimX (p 1 (p 0 l++ [dL 102])).length (p 2 (aimX (p 0 l).length (p 1 (p 0 l++ [dL 102])++ [dL 106])))
def lL (p:Nat→List XIt→List XIt) (l:List XIt):List XIt:=
 aimX (p 0 l).length (p 1 (p 0 l++ [dL 102])++ [dL 100]++ [⟨0,106,45,l.length,none,0,0⟩])++ [dL 107]
structure BxC (w:World) (cb b:Nat) (v:Value) (x:XIt):Prop where
 box:w.heap[b]?=some (.cells #[.int .i64 x.place,.int .u8 x.op.toNat,.int .u8 x.cls.toNat,.int .i64 x.num,.slice x.pa x.pn x.pc] 219)
 nc:b≠cb
 nv:v.ownBlock≠some b
theorem BxC.next {w w':World} {cb b:Nat} {v v':Value} {x:XIt} (h:BxC w cb b v x) (hB:But (fun k=>k=cb∨v.ownBlock=some k) w w') (hN:dm w v v'):BxC w' cb b v' x:=
 ⟨(hB.block b (ae h.box) (fun e=>e.elim h.nc h.nv)).trans h.box,h.nc,hN.off (ae h.box) h.nv⟩
section
variable {w0 w w':World} {cb:Nat} {X:ba} {vl vi v:Value} {l:List XIt}
theorem CmS.aimX (h:CmS w0 w cb X vl vi v l) (j:Nat) (hj:j<l.length) (hl:l.length≤4000):
  Calls Tryz.prog 241 #[.pointer (some ⟨cb,0,none⟩),.int .i64 j] w (CmR w0 w cb X vl vi v (aimX j l)):=by
 have hx:=List.getElem?_eq_getElem hj
 have e:Proofs.YtpfkkmacakjmbaaGreatDoor.aimX j l=l.set j {l[j]with num:=l.length}:=by
  unfold Proofs.YtpfkkmacakjmbaaGreatDoor.aimX;rw[hx]
 rw[e];exact h.aim j _ hx hl
end
structure CmG (w0 w W:World) (cb b:Nat) (X:ba) (vl vi v v':Value) (l:List XIt) (x:XIt):Prop where
 s:CmS w0 W cb X vl vi v' l
 t:But (fun k=>k=cb∨v.ownBlock=some k) w W
 n:dm w v v'
 b:BxC W cb b v' x
section
variable {w0 w W W':World} {cb b:Nat} {X:ba} {vl vi v v' v'':Value} {l l':List XIt} {x:XIt}
theorem CmG.next (h:CmG w0 w W cb b X vl vi v v' l x) (hB:But (fun k=>k=cb∨v'.ownBlock=some k) W W') (hS:CmS w0 W' cb X vl vi v'' l') (hN:dm W v' v''):CmG w0 w W' cb b X vl vi v v'' l' x:=
 ⟨hS,h.t.next hB (fun k hk e=>e.imp id (fun e=>h.n.own hk e)),h.n.trans hN h.t.size,h.b.next hB hN⟩
theorem CmG.fin (h:CmG w0 w W cb b X vl vi v v' l x):CmR w0 w cb X vl vi v l (.returned (.tuple #[])) W:=⟨rfl,h.t,v',h.s,h.n⟩
theorem CmG.lay (h:CmG w0 w W cb b X vl vi v v' l x) (c:UInt8) (hl:l.length≤4000):Calls Tryz.prog 160 #[.pointer (some ⟨cb,0,none⟩),.int .u8 c.toNat] W fun en w2=>en= .returned (.int .i64 l.length)∧ ∃v2,CmG w0 w w2 cb b X vl vi v v2 (l++ [dL c]) x:=by
 refine(h.s.lay hl c).mono ?_;rintro en w2 ⟨rfl,hB,v2,hS,hN⟩;exact⟨rfl,v2,h.next hB hS hN⟩
theorem CmG.call {f:Nat} {args:Array Value} (h:CmG w0 w W cb b X vl vi v v' l x) (H:Calls Tryz.prog f args W (CmR w0 W cb X vl vi v' l')):Calls Tryz.prog f args W fun en w2=>en= .returned (.tuple #[])∧ ∃v2,CmG w0 w w2 cb b X vl vi v v2 l' x:=by
 refine H.mono ?_;rintro en w2 ⟨rfl,hB,v2,hS,hN⟩;exact⟨rfl,v2,h.next hB hS hN⟩
theorem CmS.begin (h:CmS w0 w cb X vl vi v l) (hB:But (fun _=>False) w W) (x:XIt):CmG w0 w (W.alloc (.cells #[.int .i64 x.place,.int .u8 x.op.toNat,.int .u8 x.cls.toNat,.int .i64 x.num,.slice x.pa x.pn x.pc] 219)) cb W.heap.size X vl vi v v l x:=by
 have h1:=ae h.blk;have h2:=hB.size;exact⟨(h.step hB).step (But.alloc _ _ _),(hB.mono (fun _ _ h=>h.elim)).trans (But.alloc _ _ _),dm.refl _ _,heap_alloc_new _ _,by omega,fun e=>by have:=aS h.its _ e;omega⟩
theorem CmG.at' (h:CmG w0 w W cb b X vl vi v v' l x):b<W.heap.size:=ae h.b.box
theorem tM (h:CmS w0 w cb X vl vi v l) (x:XIt) (p:Nat→List XIt→List XIt) (hp: ∀k l,l.length≤(p k l).length) (hb:(iC p l).length≤3000)
  (HP: ∀k,k≤2→ ∀Y v l,CmS w0 Y cb X vl vi v l→(p k l).length≤3000→Calls Tryz.prog 210 #[.pointer (some ⟨cb,0,none⟩),cI x,.int .i64 k] Y (CmR w0 Y cb X vl vi v (p k l))):
  Calls Tryz.prog 211 #[.pointer (some ⟨cb,0,none⟩),cI x] w (CmR w0 w cb X vl vi v (iC p l)):=by
 have n0:=hp 0 l;have n1:=hp 1 (p 0 l++ [dL 102]);have n2:=hp 2 (aimX (p 0 l).length (p 1 (p 0 l++ [dL 102])++ [dL 106]));rw[dW,List.length_append,List.length_singleton]at n2;rw[List.length_append,List.length_singleton]at n1;unfold iC at hb⊢;rw[dW]at hb;have HG:=hid (h.begin (But.refl _ _) x);have a0:=hid HP;unfold cI at a0⊢;clear h HP hp
 go_in
 go_wp2_with fail;refine(HG.out.call (a0.out 0 (by omega) _ _ _ HG.out.s (by omega))).mono ?_;rintro en w1 ⟨rfl,v1,h1⟩;have H1:=hid h1;clear HG h1;go_wp2_with fail;refine(H1.out.lay 102 (by omega)).mono ?_;rintro en w2 ⟨rfl,v2,h2⟩;obtain⟨x0,x1,x2,x3,x4⟩:=bc h2.b.box;have a1:=h2.at';have H2:=hid h2;clear H1 h2;go_wp2_with fail;refine(H2.out.call (a0.out 1 (by omega) _ _ _ H2.out.s (by omega))).mono ?_;rintro en w3 ⟨rfl,v3,h3⟩;have H3:=hid h3;clear H2 h3 x0 x1 x2 x3 x4 a1;go_wp2_with fail;refine(H3.out.lay 106 (by omega)).mono ?_;rintro en w4 ⟨rfl,v4,h4⟩;have H4:=hid h4;clear H3 h4;go_wp2_with fail
 refine(H4.out.call (H4.out.s.aimX (p 0 l).length (by rw[List.length_append];simp;omega) (by rw[List.length_append];simp;omega))).mono ?_;rintro en w5 ⟨rfl,v5,h5⟩;obtain⟨x0,x1,x2,x3,x4⟩:=bc h5.b.box;have a2:=h5.at';have H5:=hid h5;clear H4 h5;go_wp2_with fail;refine(H5.out.call (a0.out 2 (by omega) _ _ _ H5.out.s (by omega))).mono ?_;rintro en w6 ⟨rfl,v6,h6⟩;have H6:=hid h6;clear H5 h6 x0 x1 x2 x3 x4 a2;go_wp2_with fail;refine(H6.out.call (H6.out.s.aimX (p 1 (p 0 l++ [dL 102])).length (by omega) (by omega))).mono ?_;rintro en w7 ⟨rfl,v7,h7⟩;have H7:=hid h7;clear H6 h7;go_wp2_with fail;go_end0;exact H7.out.fin
end
end
end Go.Proofs.YtpfkkmacakjmbaaGreatDoor
