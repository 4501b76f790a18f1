import Derived.Test.YtpfkkmacakjmbaaGreatDoorP20
set_option maxRecDepth 100000
set_option maxHeartbeats 6400000
set_option linter.unusedSimpArgs false
set_option linter.unusedVariables false
namespace Go.Proofs.YtpfkkmacakjmbaaGreatDoor
section
open Go Go.RowKit Sp
theorem fa {w:World} {base:Nat} {v:Value} {l:List UInt8} (h:BtB w base v l):(convert 112 9 v).run Tryz.prog w= .ok (.string ⟨l.toArray⟩) w:=by
 obtain⟨ao,cap,rfl⟩:=aq h
 cases ao with
 |none=>
  have hm:l.length=0:=by
   rcases Nat.eq_zero_or_pos l.length with h'|h'
   ·exact h'
   ·obtain⟨g,hg,_⟩:=aD h h'
    cases hg
  have a1:l=[]:=List.length_eq_zero_iff.1 hm;subst a1;have a2:Tryz.prog.underlying 112=some (.slice 5):=by kernel_rfl
  have a3:Tryz.prog.underlying 9=some .string:=by kernel_rfl
  have a4:Tryz.prog.underlying 5=some (.int .u8):=by kernel_rfl
  have h9:=run_convert_bytes_string (P:=Tryz.prog) w 112 9 5 none 0 cap a2 a4 a3;refine h9.trans ?_;simp[Conv.bytesToString]
  rfl
 |some ad=>
  refine(?_ :(convert 112 9 (.slice (some ad) l.length cap)).run Tryz.prog w=_);refine run_convert_bytes_back w 112 9 5 ad cap l (by kernel_rfl) (by kernel_rfl) (by kernel_rfl) ?_;intro j hj;obtain⟨g,hg,a5,a6,hc⟩:=aD h (by omega);have a0:=Option.some.inj hg;rw[a0];have h3:=hc j _ (cN hj);have e:(⟨g,0,none⟩:Addr).add j=⟨g,j,none⟩:=by simp[Addr.add];exact fun h=>h.symm
  rw[e,h3];simp[List.getD,hj]
end
section
open Go Go.RowKit Sp
attribute [local go_sem ↓] Go.wp_at_zero Go.wp_at_succ
def xsV (kn:Bool) (vs vl:Value):Value:= .agg #[.bool kn,vs,vl]
theorem lG (bx:Nat) (kn:Bool) (aa al:Option Addr) (cs cl:Nat) (st lo:List UInt8) (w:World) (hs:BtB w bx (.slice aa st.length cs) st) (hl:BtB w bx (.slice al lo.length cl) lo) (h1:st.length≤1000) (h2:lo.length≤1000):
  Calls Tryz.prog 171 #[xsV kn (.slice aa st.length cs) (.slice al lo.length cl)] w fun en w'=>But (fun _=>False) w w'∧ ∃a1 c1 a2 c2 B2,en= .returned (xsV kn (.slice a1 st.length c1) (.slice a2 lo.length c2))∧BtB w' w.heap.size (.slice a1 st.length c1) st∧BtB w' B2 (.slice a2 lo.length c2) lo∧w.heap.size≤B2∧(∀g,(Value.slice a1 st.length c1).ownBlock=some g→g<B2)∧(Value.slice a1 st.length c1).ownBlock≠none:=by
 unfold xsV;have e2:But (fun _=>False) w ((w.alloc (.cells #[.bool kn,.slice aa st.length cs,.slice al lo.length cl] 117)).alloc (.cells #[.bool false,.slice none 0 0,.slice none 0 0] 117)):=(But.alloc _ _ _).trans (But.alloc _ _ _);have f7:((w.alloc (.cells #[.bool kn,.slice aa st.length cs,.slice al lo.length cl] 117)).alloc (.cells #[.bool false,.slice none 0 0,.slice none 0 0] 117)).heap.size=w.heap.size+1+1:=by simp
 have f0:((w.alloc (.cells #[.bool kn,.slice aa st.length cs,.slice al lo.length cl] 117)).alloc (.cells #[.bool false,.slice none 0 0,.slice none 0 0] 117)).heap[w.heap.size]?=some (.cells #[.bool kn,.slice aa st.length cs,.slice al lo.length cl] 117):=by
  rw[(But.alloc (fun _=>False) (w.alloc (.cells #[.bool kn,.slice aa st.length cs,.slice al lo.length cl] 117)) (.cells #[.bool false,.slice none 0 0,.slice none 0 0] 117)).block w.heap.size (ae (heap_alloc_new w _)) (fun h=>h)];exact heap_alloc_new w _
 have e8:((w.alloc (.cells #[.bool kn,.slice aa st.length cs,.slice al lo.length cl] 117)).alloc (.cells #[.bool false,.slice none 0 0,.slice none 0 0] 117)).heap[w.heap.size+1]?=some (.cells #[.bool false,.slice none 0 0,.slice none 0 0] 117):=CB (by simp) _;have hE:=BtB.empty ((w.alloc (.cells #[.bool kn,.slice aa st.length cs,.slice al lo.length cl] 117)).alloc (.cells #[.bool false,.slice none 0 0,.slice none 0 0] 117));have b1:But (fun _=>False) ((w.alloc (.cells #[.bool kn,.slice aa st.length cs,.slice al lo.length cl] 117)).alloc (.cells #[.bool false,.slice none 0 0,.slice none 0 0] 117)) (((w.alloc (.cells #[.bool kn,.slice aa st.length cs,.slice al lo.length cl] 117)).alloc (.cells #[.bool false,.slice none 0 0,.slice none 0 0] 117)).alloc (.cells #[] 5)):=But.alloc _ _ _
 rw[f7]at hE;have f6:=(hs.but e2 (fun _ _ h=>h)).but b1 (fun _ _ h=>h);have f3:=(hl.but e2 (fun _ _ h=>h)).but b1 (fun _ _ h=>h);have f8:((w.alloc (.cells #[.bool kn,.slice aa st.length cs,.slice al lo.length cl] 117)).alloc (.cells #[.bool false,.slice none 0 0,.slice none 0 0] 117)).alloc (.cells #[] 5) |>.heap.size |> (w.heap.size+1+1≤ ·):=by simp
 have HN:Hid ([]++st=st):=hid (by simp);have e3:=hid (b1.kp f0);have e4:=hid ((b1.block (w.heap.size+1) (ae e8) (fun h=>h)).trans e8);have g7:=e2.trans b1;clear f0 e8 e2 b1 f7
 go_in
 go_wp2_with (at_builtin;refine aZ rfl _ _ rfl (w.heap.size+1+1) bx _ _ [] st st HN rfl rfl hE f6 (by omega) f8 ?_);intro a1 c1 w3 h3 e0 h6;have c7:(Value.slice (some ⟨w.heap.size+1+1,0,none⟩) 0 0).ownBlock=some (w.heap.size+1+1):=rfl
 have f5:(Value.slice a1 st.length c1).ownBlock≠none:=fun h=>by
  rcases h6 with h'|h'<;>(rw[h]at h';cases h')
 have g4:=hid f5;clear f5;have hF: ∀k,k<w.heap.size+1+1→ ¬(Value.slice (some ⟨w.heap.size+1+1,0,none⟩) 0 0).ownBlock=some k:=fun k hk h=>by rw[c7]at h;injection h with h;omega
 have a8:=(e0.block w.heap.size (ae e3.out) (hF _ (by omega))).trans e3.out;have b0:=(e0.block (w.heap.size+1) (ae e4.out) (hF _ (by omega))).trans e4.out;have f4:=f3.but e0 (fun g hg=>hF g (by have:=aS hl g hg;omega));have b4:But (fun _=>False) w w3:=g7.next e0 (fun k hk h=>hF k (by omega) h);have a4:=aS h3;have d6:=aj h3;have i1:=b4.size;have f2:=ae b0;have f1:w.heap.size<w3.heap.size:=by omega
 have h0:=BtB.empty w3;have e1:But (fun _=>False) w3 (w3.alloc (.cells #[] 5)):=But.alloc _ _ _;have h4:=f4.but e1 (fun _ _ h=>h);have h8:=h3.but e1 (fun _ _ h=>h);have i0:w3.heap.size≤(w3.alloc (.cells #[] 5)).heap.size:=e1.size;have hq:=ce2 a8;have g3:Hid ([]++lo=lo):=hid (by simp);have a5:=hid a8;have a6:=hid b0;have HF:=hid hF;clear a8 b0 hF c7 e3 e4 f6 f3 hE f8 h3 f4;go_wp2_with (at_builtin;refine aZ rfl _ _ rfl w3.heap.size bx _ _ [] lo lo g3 rfl rfl h0 h4 (by omega) i0 ?_);intro a2 c2 w5 h5 e9 h7;have a3:(Value.slice (some ⟨w3.heap.size,0,none⟩) 0 0).ownBlock=some w3.heap.size:=rfl;have b5: ∀k,k<w3.heap.size→ ¬(Value.slice (some ⟨w3.heap.size,0,none⟩) 0 0).ownBlock=some k:=fun k hk h=>by rw[a3]at h;injection h with h;omega
 have a7:But (fun k=>(Value.slice (some ⟨w3.heap.size,0,none⟩) 0 0).ownBlock=some k) w3 w5:=(e1.mono (fun _ _ h=>h.elim)).trans e9;have b6:=(a7.block w.heap.size (ae a5.out) (b5 _ (by omega))).trans a5.out;have a0:=(a7.block (w.heap.size+1) (ae a6.out) (b5 _ (by omega))).trans a6.out;have h9:=h8.but e9 (fun g hg=>b5 g (a4 g hg));have e7:But (fun _=>False) w w5:=b4.next a7 (fun k hk h=>b5 k (by omega) h);have e6:=aj h5;have q0:=ce0 b6;have y0:w5.cell? ⟨w.heap.size+1,0,none⟩=some (.bool false):=by rw[cell_of_row w5 (w.heap.size+1) 0 _ _ (0,0) a0];rfl
 have y1:w5.cell? ⟨w.heap.size+1,1,none⟩=some (.slice none 0 0):=by rw[cell_of_row w5 (w.heap.size+1) 1 _ _ (0,0) a0];rfl
 have y2:w5.cell? ⟨w.heap.size+1,2,none⟩=some (.slice none 0 0):=by rw[cell_of_row w5 (w.heap.size+1) 2 _ _ (0,0) a0];rfl
 have g0:w5.frozen? ⟨w.heap.size+1,0,none⟩=false:=frozen_of_row w5 (w.heap.size+1) 0 _ _ a0;have g1:w5.frozen? ⟨w.heap.size+1,1,none⟩=false:=frozen_of_row w5 (w.heap.size+1) 1 _ _ a0;have g2:w5.frozen? ⟨w.heap.size+1,2,none⟩=false:=frozen_of_row w5 (w.heap.size+1) 2 _ _ a0;have e5:=hid a0;clear b6 a0 a5 a6 hq a3 b5;go_wp2_with fail;have g5:=heap_setCell_same w5 (w.heap.size+1) 0 _ _ (.bool kn) e5.out;have g6:=heap_setCell_same _ (w.heap.size+1) 1 _ _ (.slice a1 st.length c1) g5;have b2:=heap_setCell_same _ (w.heap.size+1) 2 _ _ (.slice a2 lo.length c2) g6;have b3:=((But.setB w5 (w.heap.size+1) 0 (.bool kn)).trans (But.setB _ (w.heap.size+1) 1 (.slice a1 st.length c1))).trans (But.setB _ (w.heap.size+1) 2 (.slice a2 lo.length c2))
 revert b2 b3;generalize (((w5.setCell ⟨w.heap.size+1,0,none⟩ (.bool kn)).setCell ⟨w.heap.size+1,1,none⟩ (.slice a1 st.length c1)).setCell ⟨w.heap.size+1,2,none⟩ (.slice a2 lo.length c2))=w6;intro b2 b3;have r0:w6.cell? ⟨w.heap.size+1,0,none⟩=some (.bool kn):=by rw[cell_of_row w6 (w.heap.size+1) 0 _ _ (0,0) b2];rfl
 have r1:w6.cell? ⟨w.heap.size+1,1,none⟩=some (.slice a1 st.length c1):=by rw[cell_of_row w6 (w.heap.size+1) 1 _ _ (0,0) b2];rfl
 have r2:w6.cell? ⟨w.heap.size+1,2,none⟩=some (.slice a2 lo.length c2):=by rw[cell_of_row w6 (w.heap.size+1) 2 _ _ (0,0) b2];rfl
 exact bodyPost_ret (v:= .agg #[.bool kn,.slice a1 st.length c1,.slice a2 lo.length c2]) (by simp[results,Tryz.results171,go_sem,r0,r1,r2]) rfl
  ⟨e7.next b3 (fun k hk h=>by omega),a1,c1,a2,c2,w3.heap.size,rfl,BtB.but (World.ownsRow.mono h9 (by omega)) b3 (fun g hg h=>by have:=d6 g hg;omega),BtB.but h5 b3 (fun g hg h=>by have:=e6 g hg;omega),by omega,a4,g4.out⟩
theorem oI (aa al:Option Addr) (cs cl:Nat) (st lo:List UInt8) (w:World) (hs:BtB w 0 (.slice aa st.length cs) st) (hl:BtB w 0 (.slice al lo.length cl) lo):
  Calls Tryz.prog 173 #[.slice aa st.length cs,.slice al lo.length cl] w fun en w'=>en= .returned (.bool (decide (st=lo)))∧w'=w:=by
 have a0:=fa hs;have a1:=fa hl
 go_in
 go_wp2_with fail;exact bodyPost_ret (v:= .bool (decide (st=lo))) (by simp[results,Tryz.results173,go_sem];rw[Bool.eq_iff_iff];simp) rfl ⟨rfl,rfl⟩
def gF (cs:List bz) (st asked:List UInt8):Bool:=(List.range asked.length).all fun i=>bL cs (st.getD (st.length-asked.length+i) 0) (asked.getD i 0)
def p9 (cs:List bz) (ms:List Sig) (x:XIt) (ans:UInt8) (st lo:List UInt8):Option (List UInt8×List UInt8):=
 if st.length<(az cs ms x.op x.cls x.num ans).length∨gF cs st (az cs ms x.op x.cls x.num ans)=false then none else
 if x.op.toNat=115∧ ¬x.num<lo.length then none else
 if x.op.toNat=108∧(aH cs ms x.op x.cls x.num (if x.op.toNat=115 then lo.set x.num (st.getD (st.length-(az cs ms x.op x.cls x.num ans).length) 0)else lo)).toNat=45 then none else
 some (st.take (st.length-(az cs ms x.op x.cls x.num ans).length)++(if(aH cs ms x.op x.cls x.num (if x.op.toNat=115 then lo.set x.num (st.getD (st.length-(az cs ms x.op x.cls x.num ans).length) 0)else lo)).toNat=0 then []else [aH cs ms x.op x.cls x.num (if x.op.toNat=115 then lo.set x.num (st.getD (st.length-(az cs ms x.op x.cls x.num ans).length) 0)else lo)]),
  if x.op.toNat=115 then lo.set x.num (st.getD (st.length-(az cs ms x.op x.cls x.num ans).length) 0)else lo)
structure BhW (w wx:World) (c r:UInt8) (m:Nat) (vl vi:Value) (pl nu:Nat) (op ic:UInt8) (pa:Option Addr) (pn pc:Nat):Prop where
 but:But (fun _=>False) w wx
 bod:wx.heap[w.heap.size]?=some (.cells #[.int .u8 c.toNat,.int .i64 m,.int .u8 r.toNat,vl,vi] 115)
 item:wx.heap[w.heap.size+1]?=some (.cells #[.int .i64 pl,.int .u8 op.toNat,.int .u8 ic.toNat,.int .i64 nu,.slice pa pn pc] 219)
 res:wx.heap[w.heap.size+1+1+1]?=some (.cells #[.bool false,.slice none 0 0,.slice none 0 0] 117)
section
variable {w w1 w2:World} {c r:UInt8} {m:Nat} {vl vi:Value} {pl nu:Nat} {op ic:UInt8} {pa:Option Addr} {pn pc:Nat}
theorem BhW.next {F:Nat→Prop} (h:BhW w w1 c r m vl vi pl nu op ic pa pn pc) (hb:But F w1 w2) (hF: ∀k,k<w.heap.size+4→ ¬F k):BhW w w2 c r m vl vi pl nu op ic pa pn pc:=
 ⟨h.but.next hb (fun k hk hf=>hF k (by omega) hf),(hb.block _ (ae h.bod) (hF _ (by omega))).trans h.bod,(hb.block _ (ae h.item) (hF _ (by omega))).trans h.item,(hb.block _ (ae h.res) (hF _ (by omega))).trans h.res⟩
theorem BhW.gt (h:BhW w w1 c r m vl vi pl nu op ic pa pn pc):w.heap.size+3<w1.heap.size:=ae h.res
end
theorem iJ {w:World} {g t:Nat} {x0 x1 x2:Value} (h:w.heap[g]?=some (.cells #[x0,x1,x2] t)):w.frozen? ⟨g,0,none⟩=false∧w.frozen? ⟨g,1,none⟩=false∧w.frozen? ⟨g,2,none⟩=false:=
 ⟨frozen_of_row w g 0 _ _ h,frozen_of_row w g 1 _ _ h,frozen_of_row w g 2 _ _ h⟩
def zF (w:World) (g:Nat) (x0 x1 x2:Value):World:=((w.setCell ⟨g,0,none⟩ x0).setCell ⟨g,1,none⟩ x1).setCell ⟨g,2,none⟩ x2
theorem oJ {w:World} {g t:Nat} {a0 a1 a2:Value} (h:w.heap[g]?=some (.cells #[a0,a1,a2] t)) (x0 x1 x2:Value):(zF w g x0 x1 x2).heap[g]?=some (.cells #[x0,x1,x2] t):=by
 have h1:=heap_setCell_same w g 0 _ _ x0 h;have h2:=heap_setCell_same _ g 1 _ _ x1 h1;exact heap_setCell_same _ g 2 _ _ x2 h2
theorem rM (w:World) (g:Nat) (x0 x1 x2:Value):But (· =g) w (zF w g x0 x1 x2):=((But.setB w g 0 x0).trans (But.setB _ g 1 x1)).trans (But.setB _ g 2 x2)
theorem kJ {fn:Func} {R:Ending→World→Prop} {a:Act} {w:World} {c f g:Nat} {a0 a1 a2 x0 x1 x2:Value} {e:Bool} (hf:fn.results=#[.cell c 117,.tmp f]) (hd:a.defers=[]) (hc:a.tmps.getD c undef= .pointer (some ⟨g,0,none⟩)) (he:a.tmps.getD f undef= .bool e) (h:w.heap[g]?=some (.cells #[a0,a1,a2] 117)) (hR: ∀w9,w9.heap[g]?=some (.cells #[x0,x1,x2] 117)→But (· =g) w w9→R (.returned (.tuple #[.agg #[x0,x1,x2],.bool e])) w9):bodyPost Tryz.prog fn R .ret a (((w.setCell ⟨g,0,none⟩ x0).setCell ⟨g,1,none⟩ x1).setCell ⟨g,2,none⟩ x2):=by
 have h9:=oJ h x0 x1 x2;have r0:=ce0 h9;have r1:=ce1 h9;have r2:=ce2 h9;refine bodyPost_ret (v:= .tuple #[.agg #[x0,x1,x2],.bool e]) ?_ hd (hR _ h9 (rM w g x0 x1 x2));have a3:a.tmps[c]?.getD undef= .pointer (some ⟨g,0,none⟩):=by simpa using hc
 have a4:a.tmps[f]?.getD undef= .bool e:=by simpa using he
 unfold zF at r0 r1 r2;simp[results,hf,a3,a4,go_sem,r0,r1,r2]
theorem BtB.pre {w:World} {base g cap n:Nat} {l:List UInt8} (h:BtB w base (.slice (some ⟨g,0,none⟩) l.length cap) l) (hn:n≤l.length):BtB w base (.slice (some ⟨g,0,none⟩) (l.take n).length cap) (l.take n):=by
 have hl:(l.take n).length=n:=by simp;omega
 rcases h.2 with⟨h1,_⟩ | ⟨g',cap',cur,h1,h2,h3,h4,h5,h6,h7⟩
 ·cases h1
 ·have e1:cap=cap':=congrArg (fun v=>match v with|Value.slice _ _ c=>c|_=>0) h1
  have e2:g=g':=by
   have:=congrArg (fun v=>match v with|Value.slice (some a) _ _=>a.block|_=>0) h1;exact this
  subst e1 e2;refine⟨by simp[aJ],Or.inr ⟨g,cap,cur,by rw[hl],h2,h3,by rw[hl];omega,h5,h6,?_⟩⟩;rw[hl];simp only[Nat.mul_one]at h7⊢;have:cur.toList.take n=(cur.toList.take l.length).take n:=by rw[List.take_take,Nat.min_eq_left hn]
  rw[this,h7];simp[aJ,List.map_take]
theorem BtB.cap {w:World} {base cap:Nat} {ao:Option Addr} {l:List UInt8} (h:BtB w base (.slice ao l.length cap) l):l.length≤cap:=by
 rcases h.2 with⟨h1,h2⟩ | ⟨g',cap',cur,h1,_,_,h4,_⟩
 ·omega
 ·have e1:cap=cap':=congrArg (fun v=>match v with|Value.slice _ _ c=>c|_=>0) h1;rw[e1];exact h4
theorem BtB.put {w:World} {base g cap k:Nat} {l:List UInt8} (h:BtB w base (.slice (some ⟨g,0,none⟩) l.length cap) l) (c:UInt8):BtB (w.setCell ⟨g,k,none⟩ (.int .u8 c.toNat)) base (.slice (some ⟨g,0,none⟩) l.length cap) (l.set k c):=by
 rcases h.2 with⟨h1,_⟩ | ⟨g',cap',cur,h1,h2,h3,h4,h5,h6,h7⟩
 ·cases h1
 ·have e1:cap=cap':=congrArg (fun v=>match v with|Value.slice _ _ c=>c|_=>0) h1;have e2:g=g':=congrArg (fun v=>match v with|Value.slice (some a) _ _=>a.block|_=>0) h1;subst e1 e2;refine⟨by simp[aJ],Or.inr ⟨g,cap,cur.setIfInBounds k (.int .u8 c.toNat),by simp,h2,heap_setCell_same w g k _ _ _ h3,by simpa using h4,h5,by simpa using h6,?_⟩⟩;simp only[Nat.mul_one,List.length_set]at h7⊢;rw[Array.toList_setIfInBounds,List.take_set,h7];simp[aJ,List.map_set]
theorem BtB.row {w:World} {base g cap:Nat} {n:Nat} {l:List UInt8} (h:BtB w base (.slice (some ⟨g,0,none⟩) n cap) l): ∃cur,w.heap[g]?=some (.cells cur 5):=by
 rcases h.2 with⟨h1,_⟩ | ⟨g',cap',cur,h1,h2,h3,_⟩
 ·cases h1
 ·have e2:g=g':=congrArg (fun v=>match v with|Value.slice (some a) _ _=>a.block|_=>0) h1;subst e2;exact⟨cur,h3⟩
theorem tA (cs:List bz) (ms:List Sig) (c k:UInt8) (n:Nat) (ans:UInt8):(az cs ms c k n ans).length≤2:=by
 unfold az
 repeat' split
 all_goals simp
theorem rN (b:Nat) (cs:List bz) (ms:List Sig) (c r:UInt8) (m:Nat) (vl vi:Value) (x:XIt) (aa al:Option Addr) (ca cl:Nat) (st lo:List UInt8) (w:World) (hn:cs.length≤100) (hm:ms.length≤100) (hT:TxC w b cs) (hM:TxM w b ms)
  (hvl:vl.oneCell'=true) (hvi:vi.oneCell'=true) (hs:BtB w 0 (.slice aa st.length ca) st) (hl:BtB w 0 (.slice al lo.length cl) lo) (h1:st.length≤200) (h2:lo.length≤200):
  Calls Tryz.prog 174 #[.pointer (some ⟨b,0,none⟩),hdV c m r vl vi,itV x,xsV true (.slice aa st.length ca) (.slice al lo.length cl)] w fun en w'=>But (fun _=>False) w w'∧
   ((p9 cs ms x r st lo=none∧en= .returned (.tuple #[xsV false (.slice none 0 0) (.slice none 0 0),.bool false]))∨
    (∃st' lo' a1 c1 a2 c2,p9 cs ms x r st lo=some (st',lo')∧en= .returned (.tuple #[xsV true (.slice a1 (List.length st') c1) (.slice a2 (List.length lo') c2),.bool true])∧BtB w' w.heap.size (.slice a1 st'.length c1) st'∧BtB w' w.heap.size (.slice a2 lo'.length c2) lo')):=by
 obtain⟨pl,op,ic,nu,pa,pn,pc⟩:=x;obtain⟨t0,y4,y5,y6,y9⟩:=info_parts io;unfold hdV itV xsV
 have p8:BhW w ((((w.alloc (.cells #[.int .u8 c.toNat,.int .i64 m,.int .u8 r.toNat,vl,vi] 115)).alloc (.cells #[.int .i64 pl,.int .u8 op.toNat,.int .u8 ic.toNat,.int .i64 nu,.slice pa pn pc] 219)).alloc (.cells #[.bool true,.slice aa st.length ca,.slice al lo.length cl] 117)).alloc (.cells #[.bool false,.slice none 0 0,.slice none 0 0] 117)) c r m vl vi pl nu op ic pa pn pc:=by
  refine⟨(((But.alloc _ _ _).trans (But.alloc _ _ _)).trans (But.alloc _ _ _)).trans (But.alloc _ _ _),?_,?_,CB (by simp) _⟩
  ·rw[Below.heap_alloc _ _ _ (by simp;omega),Below.heap_alloc _ _ _ (by first| (simp;done) | (simp;omega)),Below.heap_alloc _ _ _ (by first| (simp;done) | (simp;omega))];exact heap_alloc_new w _
  ·rw[Below.heap_alloc _ _ _ (by simp),Below.heap_alloc _ _ _ (by simp)];exact CB (by simp) _
 have y3:=hs.but p8.but (fun _ _ h=>h);have y0:=hl.but p8.but (fun _ _ h=>h);have w6:=hid p8;have r5:=hid (lG 0 true aa al ca cl st lo _ y3 y0 (by omega) (by omega));have z1:((((w.alloc (.cells #[.int .u8 c.toNat,.int .i64 m,.int .u8 r.toNat,vl,vi] 115)).alloc (.cells #[.int .i64 pl,.int .u8 op.toNat,.int .u8 ic.toNat,.int .i64 nu,.slice pa pn pc] 219)).alloc (.cells #[.bool true,.slice aa st.length ca,.slice al lo.length cl] 117)).alloc (.cells #[.bool false,.slice none 0 0,.slice none 0 0] 117)).heap.size=w.heap.size+1+1+1+1:=by simp
 have x1:=hid z1;clear p8 y3 y0 z1;unfold xsV at r5
 go_in
 go_wp2_with fail;refine r5.out.mono ?_;rintro en w1 ⟨x3,a1,c1,a2,c2,G2,rfl,p2,v2,z5,j1,v6⟩;have n3:=w6.out.next x3 (fun _ _ h=>h);rw[x1.out]at p2 z5
 obtain⟨gq,C5⟩: ∃gq,a1=some ⟨gq,0,none⟩:=by
  rcases p2.2 with⟨h,_⟩ | ⟨g,cap,cur,h,_⟩
  ·rw[h]at v6;exact absurd rfl v6
  ·exact⟨g,congrArg (fun v=>match v with|Value.slice a _ _=>a|_=>none) h⟩
 subst C5;clear v6;clear r5 w6 x1 x3;have C7:=n3.gt;have f7:But (fun _=>False) w1 (w1.alloc (.cells #[.bool true,.slice (some ⟨gq,0,none⟩) st.length c1,.slice a2 lo.length c2] 117)):=But.alloc _ _ _;have q3:=heap_alloc_new w1 (.cells #[.bool true,.slice (some ⟨gq,0,none⟩) st.length c1,.slice a2 lo.length c2] 117);have k9:=n3.next f7 (fun _ _ h=>h);have q9:=p2.but f7 (fun _ _ h=>h);have q7:=v2.but f7 (fun _ _ h=>h);have f4:=aS p2;have f3:=aS v2;obtain⟨i0,i1,i2,i3,i4⟩:=bc n3.item;obtain⟨d0,d1,d2,d3,d4⟩:=bc n3.bod;have l0:w.heap.size<w1.heap.size:=by omega
 have l1:w.heap.size+1<w1.heap.size:=by omega
 clear n3 p2 v2;go_wp2_with fail;revert f7 q3 k9 q9 q7;generalize (w1.alloc (.cells #[.bool true,.slice (some ⟨gq,0,none⟩) st.length c1,.slice a2 lo.length c2] 117))=w2;intro f7 q3 k9 q9 q7;have s0:=hid (jU (ap:=pa) (np:=pn) (cp:=pc) b cs ms pl nu op ic r w2 hn hm (hT.but k9.but) (hM.but k9.but));have C0:=tA cs ms op ic nu r
 have v8:Hid (∀T,az cs ms op ic nu r=T→p9 cs ms ⟨pl,op,ic,nu,pa,pn,pc⟩ r st lo=
   if st.length<T.length∨gF cs st T=false then none else
   if op.toNat=115∧ ¬nu<lo.length then none else
   if op.toNat=108∧(aH cs ms op ic nu (if op.toNat=115 then lo.set nu (st.getD (st.length-T.length) 0)else lo)).toNat=45 then none else
   some (st.take (st.length-T.length)++(if(aH cs ms op ic nu (if op.toNat=115 then lo.set nu (st.getD (st.length-T.length) 0)else lo)).toNat=0 then []else [aH cs ms op ic nu (if op.toNat=115 then lo.set nu (st.getD (st.length-T.length) 0)else lo)]),
    if op.toNat=115 then lo.set nu (st.getD (st.length-T.length) 0)else lo)):=hid (fun T h=>by subst h;rfl)
 obtain⟨T,p6⟩: ∃T,az cs ms op ic nu r=T:=⟨_,rfl⟩;have h8:=hid (v8.out T p6);have h4:op.toNat=115→0<T.length:=fun h=>by rw[←p6];simp[az,h]
 have m2:=hid h4;clear h4;rw[p6]at s0 C0;clear v8 p6;refine s0.out.mono ?_;rintro en w3 ⟨n0,v3,rfl,x2⟩;obtain⟨a3,c3,D4⟩:=aq x2;subst D4;clear s0;have n4:=k9.next n0 (fun _ _ h=>h);have D3:=q9.but n0 (fun _ _ h=>h);have D0:=q7.but n0 (fun _ _ h=>h);have q4:=n0.kp q3;have t4:=ae q4;have D5:=n0.size;obtain⟨b0,b1,b2⟩:=eY q4;obtain⟨i0,i1,i2,i3,i4⟩:=bc n4.item;obtain⟨r0,r1,r2⟩:=eY n4.res;obtain⟨f0,f1,f2⟩:=iJ n4.res;have s1:=hid n4;have z3:=hid q4;clear k9 q9 q7 q3 f7 q4 n4 d0 d1 d2 d3 d4
 by_cases hlen:st.length<T.length
 ·have D2:(st.length:Int)-(T.length:Int)<0:=by omega
  have hN:p9 cs ms ⟨pl,op,ic,nu,pa,pn,pc⟩ r st lo=none:=by rw[h8.out,if_pos (Or.inl hlen)]
  have HN:=hid hN;clear hN h8;go_wp2_with fail;refine kJ Tryz.results174 rfl rfl rfl s1.out.res (fun w9 h9 h9b=> ?_);exact⟨s1.out.but.next h9b (fun k hk h=>by omega),Or.inl ⟨HN.out,rfl⟩⟩
 ·obtain⟨RR,s6⟩: ∃RR,st.length-T.length=RR:=⟨_,rfl⟩;rw[s6]at h8;have y2:(st.length:Int)-(T.length:Int)=(RR:Int):=by omega
  have E3:RR+T.length≤st.length:=by omega
  have w0:=hid s6;have D7: ¬(RR:Int)<0:=by omega
  clear s6;go_wp2_with fail
  go_loopg [13] T.length (fun mm is wr=> ∃k:Nat,is= .int .i64 k∧k≤T.length∧k+mm≤T.length∧T.length≤k+mm∧But (fun _=>False) w3 wr∧Hid (∀i,i<k→bL cs (st.getD (RR+i) 0) (T.getD i 0)=true))
  case atStart=>exact⟨0,rfl,by omega,by omega,by omega,But.refl _ _,fun i hi=>absurd hi (by omega)⟩
  case round=>
   obtain⟨k,rfl,E4,C8,E5,j0,HA⟩:=hrel;clear C8;have n6:=s1.out.next j0 (fun _ _ h=>h);have l3:=D3.but j0 (fun _ _ h=>h);have j5:=D0.but j0 (fun _ _ h=>h);have s3:=x2.but j0 (fun _ _ h=>h);have q5:=(j0.block w1.heap.size t4 (fun h=>h)).trans z3.out;have E6:=j0.size;have e9:=ae q5;clear b0 b1 b2 i0 i1 i2 i3 i4 r0 r1 r2 f0 f1 f2;obtain⟨b0,b1,b2⟩:=eY q5;obtain⟨i0,i1,i2,i3,i4⟩:=bc n6.item;obtain⟨r0,r1,r2⟩:=eY n6.res;obtain⟨f0,f1,f2⟩:=iJ n6.res;have e3:=hid n6;have p4:=hid q5;clear n6 q5
   by_cases hlt:k<T.length
   ·have C9:(k:Int)<(T.length:Int):=by omega
    have z6:RR+k<st.length:=by omega
    obtain⟨gs,q6,j4,_,o2⟩:=aD l3 (by omega);obtain⟨ga,C1,t1,_,x6⟩:=aD s3 (by omega);have q1:=o2 _ _ (cN z6);have q2:=x6 _ _ (cN hlt);have D8:((RR+k:Nat):Int)<(st.length:Int):=by omega
    have j3:gs=gq:=by have:=Option.some.inj q6;injection this with h;exact h.symm
    subst j3 C1;have g7:=hid (fun(h:bL cs (st.getD (RR+k) 0) (T.getD k 0)=true)=>(fun i (hi:i<k+1)=>if hik:i=k then(by rw[hik];exact h)else HA.out i (by omega): ∀i,i<k+1→bL cs (st.getD (RR+i) 0) (T.getD i 0)=true))
    have g6:=hid (fun(h:bL cs (st.getD (RR+k) 0) (T.getD k 0)=false)=>(show gF cs st T=false from by
     unfold gF;rw[List.all_eq_false];exact⟨k,List.mem_range.2 hlt,by rw[w0.out,h];simp⟩))
    clear o2 x6 HA;revert q1 q2 g7 g6;generalize st.getD (RR+k) 0=y;generalize T.getD k 0=z;intro q1 q2 g7 g6;go_wp2_with fail;have h3:But (fun _=>False) wr wr.drew:=But.drew _ _;have w4:=hid (mJ b cs y z wr.drew hn ((hT.but e3.out.but).but h3));have D9:(RR:Int)+(k:Int)<(st.length:Int):=by omega
    have E0:(0:Int)≤(RR:Int)+(k:Int):=by omega
    have E1:((RR:Int)+(k:Int)).toNat=RR+k:=by omega
    have E2:IntKind.i64.wrap ((RR:Int)+(k:Int))=(RR:Int)+(k:Int):=dj _ (by omega) (by omega);refine aB (But (fun _=>False) wr) 14 (by kernel_rfl) ?_
    iterate 12 (refine aG (v:=?_) rfl (by kernel_rfl) (fun _ _ _ h=>h) rfl h3 ?_ ?_;rotate_left;(focus (intro wS h;have q0:=(h.kc b1 e9);have q1:=(h.kc q1 j4);have q2:=(h.kc q2 t1);clear h;go_simp;try rfl));dsimp only[Act.put];try simp only[aK])
    refine ag rfl (by kernel_rfl) ?_;intro KS hKS;go_simp;refine w4.out.mono ?_;rintro en wx ⟨rfl,z0⟩;rw[z0];clear z0 wx w4;refine hKS.out _ _ (fun _=>h3) ?_;clear hKS KS;refine ag rfl (by kernel_rfl) ?_;intro KS hKS;go_simp;refine hKS.out _ _ (fun _=>h3) ?_;clear hKS KS;refine aF rfl (by kernel_rfl) ?_;have l2:=e3.out.next h3 (fun _ _ h=>h);have s4:=j0.trans h3;clear b0 b1 b2 i0 i1 i2 i3 i4 r0 r1 r2 f0 f1 f2 q1 q2;revert l2 s4;generalize wr.drew=wd;intro l2 s4;obtain⟨r0,r1,r2⟩:=eY l2.res;obtain⟨f0,f1,f2⟩:=iJ l2.res;revert g7 g6
    cases bL cs y z with
    |true=>
     intro g7 g6;have r4:=hid (g7.out rfl);clear g7 g6;go_wp2_with fail
     go_roundg (T.length-(k+1))
     case measure=>omega
     case rel=>exact⟨k+1,by simp,by omega,by omega,by omega,s4,r4.out⟩
    |false=>
     intro g7 g6;have hN:p9 cs ms ⟨pl,op,ic,nu,pa,pn,pc⟩ r st lo=none:=by rw[h8.out,if_pos (Or.inr (g6.out rfl))]
     have HN:=hid hN;have w8:=hid l2;clear hN h8 g7 g6 l2;go_wp2_with fail;refine kJ Tryz.results174 rfl rfl rfl w8.out.res (fun w9 h9 h9b=> ?_);exact⟨w8.out.but.next h9b (fun k hk h=>by omega),Or.inl ⟨HN.out,rfl⟩⟩
   ·have C9: ¬(k:Int)<(T.length:Int):=by omega
    have n7:gF cs st T=true:=by
     unfold gF;rw[List.all_eq_true];intro i hi;rw[w0.out];exact HA.out i (by have:=List.mem_range.1 hi;omega)
    have f7:=h8.out;rw[if_neg (by rw[n7];simp;omega)]at f7;have k0:=hid f7;clear n7 f7 h8 HA
    by_cases h115:op.toNat=115
    ·have m5:((op.toNat:Int)==115)=true:=by rw[beq_iff_eq];omega
     have x4:=m2.out h115
     by_cases hnu:nu<lo.length
     ·have D1:(nu:Int)<(lo.length:Int):=by omega
      have a0:=k0.out;rw[if_neg (fun h=>h.2 hnu)]at a0;simp only[if_pos h115]at a0;have f5:=hid a0;have h7:=hid h115;clear a0 k0 h115;go_wp2_with fail;obtain⟨gl,C3,C4,t3,x7⟩:=aD j5 (by omega);subst C3;obtain⟨cur,o3⟩:=BtB.row j5;have fz:=frozen_of_row wr gl nu _ _ o3;have ql:=x7 _ _ (cN hnu);obtain⟨gs,q6,j4,_,o2⟩:=aD l3 (by omega);have j3:gs=gq:=by have:=Option.some.inj q6;injection this with h;exact h.symm
      subst j3;have z8:RR<st.length:=by omega
      have B2:(RR:Int)<(st.length:Int):=by omega
      have q1:=o2 _ _ (cN z8);have j7:aH cs ms op ic nu (lo.set nu (st.getD RR 0))=0:=by simp[aH,h7.out]
      have a0:=f5.out;rw[j7]at a0;simp only[show¬(op.toNat=108∧(0:UInt8).toNat=45)from fun h=>by have:=h7.out;omega,if_false,show(0:UInt8).toNat=0 from rfl,if_true,List.append_nil]at a0;have f8:=hid a0;have p5:=hid j7;clear a0 f5 j7 x7 o2 o3 s3 q6;revert q1 f8 p5;generalize st.getD RR 0=y;intro q1 f8 p5;have h3:But (fun _=>False) wr wr.drew:=But.drew _ _;have y1:=f3 gl rfl;have C6:=j1 gs rfl;have x8:G2≤gl:=t3;have x9:gl≠w.heap.size+1:=by omega
      refine aB (But (fun _=>False) wr) 9 (by kernel_rfl) ?_
      iterate 9 (refine aG (v:=?_) rfl (by kernel_rfl) (fun _ _ _ h=>h) rfl h3 ?_ ?_;rotate_left;(focus (intro wS h;have Q0:=(h.kc b1 e9);have Q1:=(h.kc b2 e9);have Q2:=(h.kc i3 (ae e3.out.item));have Q3:=(h.kc q1 j4);clear h;go_simp;try rfl));dsimp only[Act.put];try simp only[aK])
      refine ag rfl (by kernel_rfl) ?_;intro KS hKS;go_simp;refine hKS.out _ _ nofun ?_;clear hKS KS;refine ag rfl (by kernel_rfl) ?_;intro KS hKS;go_simp;refine hKS.out _ _ nofun ?_;clear hKS KS;refine aF rfl (by kernel_rfl) ?_;have s5:But (· =gl) wr (wr.setCell ⟨gl,nu,none⟩ (.int .u8 y.toNat)).drew:=(But.setB _ _ _ _).trans (But.drew _ _);have j2:=e3.out.next s5 (fun k hk h=>by omega);have v7:=l3.but s5 (fun g hg h=>by have h2:gs=g:=Option.some.inj hg;omega);have q8:=(j5.put (k:=nu) y).but (But.drew (fun _=>False) _) (fun _ _ h=>h);have b6:=(s5.block w1.heap.size e9 (by omega)).trans p4.out;clear b0 b1 b2 i0 i1 i2 i3 i4 r0 r1 r2 f0 f1 f2 l3 j5 e3 p4 fz ql q1
      revert j2 v7 q8 b6;generalize (wr.setCell ⟨gl,nu,none⟩ (.int .u8 y.toNat)).drew=wq;intro j2 v7 q8 b6;obtain⟨b0,b1,b2⟩:=eY b6;obtain⟨i0,i1,i2,i3,i4⟩:=bc j2.item;have g2:(lo.set nu y).length=lo.length:=by simp
      have v0:=ae b6;have v5:=ju (ap:=pa) (np:=pn) (cp:=pc) b cs ms pl nu op ic (some ⟨gl,0,none⟩) c2 (lo.set nu y) wq hn hm (hT.but j2.but) (hM.but j2.but) (by rw[g2];exact World.ownsRow.mono q8 (Nat.zero_le _));rw[g2,p5.out]at v5;have z4:=hid v5;have m0:=hid g2;have x0:=hid j2;have v9:=hid b6;clear v5 g2 j2 b6 p5;go_wp2_with fail;refine z4.out.mono ?_;rintro en w5 ⟨rfl,g0⟩;have e6:=x0.out.next g0 (fun _ _ h=>h);have b4:=v7.but g0 (fun _ _ h=>h);have g5:=q8.but g0 (fun _ _ h=>h);have e8:=(g0.block w1.heap.size v0 (fun h=>h)).trans v9.out;have t5:=ae e8;clear b0 b1 b2 i0 i1 i2 i3 i4;obtain⟨b0,b1,b2⟩:=eY e8
      obtain⟨e0,e1,e2⟩:=iJ e8;obtain⟨i0,i1,i2,i3,i4⟩:=bc e6.item;obtain⟨r0,r1,r2⟩:=eY e6.res;obtain⟨f0,f1,f2⟩:=iJ e6.res;have k3:=hid e6;have l4:=hid e8;have m4:((op.toNat:Int)==108)=false:=by rw[beq_eq_false_iff_ne];have:=h7.out;omega
      clear e6 e8 x0 v9 m5;have o1:=b4.cap;have x5:(RR:Int)≤(c1:Int):=by omega
      have a7:But (· =w1.heap.size) w5 (w5.setCell ⟨w1.heap.size,1,none⟩ (.slice (some ⟨gs,0,none⟩) RR c1)):=But.setB w5 w1.heap.size 1 (.slice (some ⟨gs,0,none⟩) RR c1);have h5:=k3.out.next a7 (fun k hk h=>by omega);have e5:(st.take RR).length=RR:=by simp;omega
      have h0:=b4.pre (n:=RR) (by omega);have e4:=h0.but a7 (fun g hg h=>by have:=f4 g hg;omega);have h6:=g5.but a7 (fun g hg h=>by have h2:gl=g:=Option.some.inj hg;omega);have b5:=hid e5;rw[e5]at e4;have c7:=hid e4;have d6:=hid h6;have f6:=hid h5;clear a7 h5 h0 e4 h6 e5;go_wp2_with fail;refine kJ Tryz.results174 rfl rfl rfl f6.out.res (fun w9 h9 h9b=> ?_);refine⟨f6.out.but.next h9b (fun k hk h=>by omega),Or.inr ⟨st.take RR,lo.set nu y,some ⟨gs,0,none⟩,c1,some ⟨gl,0,none⟩,c2,by rw[f8.out,if_neg (fun h=>absurd h.2 (by decide))],by rw[b5.out,m0.out],?_,?_⟩⟩
      ·rw[b5.out];exact BtB.but (World.ownsRow.mono c7.out (by omega)) h9b (fun g hg h=>by have:=aj c7.out g hg;omega)
      ·rw[m0.out];exact BtB.but (World.ownsRow.mono d6.out (by omega)) h9b (fun g hg h=>by have h2:gl=g:=Option.some.inj hg;omega)
     ·have D1: ¬(nu:Int)<(lo.length:Int):=by omega
      have hN:p9 cs ms ⟨pl,op,ic,nu,pa,pn,pc⟩ r st lo=none:=by rw[k0.out,if_pos ⟨h115,hnu⟩]
      have HN:=hid hN;clear hN k0 h115;go_wp2_with fail;refine kJ Tryz.results174 rfl rfl rfl e3.out.res (fun w9 h9 h9b=> ?_);exact⟨e3.out.but.next h9b (fun k hk h=>by omega),Or.inl ⟨HN.out,rfl⟩⟩
    ·have m5:=tf op.toNat 115 (by omega);have a0:=k0.out;rw[if_neg (fun h=>h115 h.1)]at a0;simp only[if_neg h115]at a0;have f5:=hid a0;clear a0 k0;go_wp2_with fail;refine(ju (ap:=pa) (np:=pn) (cp:=pc) b cs ms pl nu op ic a2 c2 lo wr hn hm (hT.but e3.out.but) (hM.but e3.out.but) (World.ownsRow.mono j5 (Nat.zero_le _))).mono ?_;rintro en w5 ⟨rfl,g0⟩;obtain⟨L,hL⟩: ∃L,aH cs ms op ic nu lo=L:=⟨_,rfl⟩;rw[hL];rw[hL]at f5;clear hL;have e6:=e3.out.next g0 (fun _ _ h=>h);have b4:=l3.but g0 (fun _ _ h=>h);have g5:=j5.but g0 (fun _ _ h=>h);have e8:=(g0.block w1.heap.size e9 (fun h=>h)).trans p4.out;have t5:=ae e8
     clear b0 b1 b2 i0 i1 i2 i3 i4 r0 r1 r2 f0 f1 f2 l3 j5 s3;obtain⟨b0,b1,b2⟩:=eY e8;obtain⟨e0,e1,e2⟩:=iJ e8;obtain⟨i0,i1,i2,i3,i4⟩:=bc e6.item;obtain⟨r0,r1,r2⟩:=eY e6.res;obtain⟨f0,f1,f2⟩:=iJ e6.res;have k3:=hid e6;have l4:=hid e8;clear e6 e8 e3 p4
     by_cases h108:op.toNat=108
     ·have m4:((op.toNat:Int)==108)=true:=by rw[beq_iff_eq];omega
      by_cases h45:L.toNat=45
      ·have eL:((L.toNat:Int)==45)=true:=by rw[beq_iff_eq];omega
       have hN:p9 cs ms ⟨pl,op,ic,nu,pa,pn,pc⟩ r st lo=none:=by rw[f5.out,if_pos ⟨h108,h45⟩]
       have HN:=hid hN;clear hN f5 h108 h45 h115;go_wp2_with fail;refine kJ Tryz.results174 rfl rfl rfl k3.out.res (fun w9 h9 h9b=> ?_);exact⟨k3.out.but.next h9b (fun k hk h=>by omega),Or.inl ⟨HN.out,rfl⟩⟩
      ·have eL:=tf L.toNat 45 (by omega);have i7:=f5.out;rw[if_neg (fun h=>h45 h.2)]at i7;have f8:=hid i7;clear i7 h108 h45 h115;have o1:=b4.cap;have x5:(RR:Int)≤(c1:Int):=by omega
       have a7:But (· =w1.heap.size) w5 (w5.setCell ⟨w1.heap.size,1,none⟩ (.slice (some ⟨gq,0,none⟩) RR c1)):=But.setB w5 w1.heap.size 1 (.slice (some ⟨gq,0,none⟩) RR c1);have h5:=k3.out.next a7 (fun k hk h=>by omega);have o4:=heap_setCell_same w5 w1.heap.size 1 _ _ (.slice (some ⟨gq,0,none⟩) RR c1) l4.out;have e5:(st.take RR).length=RR:=by simp;omega
       have h0:=b4.pre (n:=RR) (by omega);have e4:=h0.but a7 (fun g hg h=>by have:=f4 g hg;omega);have h6:=g5.but a7 (fun g hg h=>by have:=f3 g hg;omega);have p3:(w5.setCell ⟨w1.heap.size,1,none⟩ (.slice (some ⟨gq,0,none⟩) RR c1)).heap.size=w5.heap.size:=br _ _ _;have b5:=hid e5;rw[e5]at e4;have c7:=hid e4;have d6:=hid h6;have f6:=hid h5;have l5:=hid o4;have z2:=hid a7;have s2:=hid p3;have D6:=ae l4.out;clear a7 h5 o4 h0 e4 h6 e5 p3 f5
       by_cases hL0:L.toNat=0
       ·have i5:((L.toNat:Int)==0)=true:=by rw[beq_iff_eq];omega
        have i6:((L.toNat:Int)!=0)=false:=by simp[bne,i5]
        have b3:(L.toNat:Int)=0:=by omega
        have r3:=hid b3;clear b3;have a8:=hid hL0;clear hL0;go_wp2_with fail;refine kJ Tryz.results174 rfl rfl rfl f6.out.res (fun w9 h9 h9b=> ?_);refine⟨f6.out.but.next h9b (fun k hk h=>by omega),Or.inr ⟨st.take RR,lo,some ⟨gq,0,none⟩,c1,a2,c2,by rw[f8.out,if_pos a8.out,List.append_nil],by rw[b5.out],?_,?_⟩⟩
        ·rw[b5.out];exact BtB.but (World.ownsRow.mono c7.out (by omega)) h9b (fun g hg h=>by have:=aj c7.out g hg;omega)
        ·exact BtB.but (World.ownsRow.mono d6.out (by omega)) h9b (fun g hg h=>by have:=aj d6.out g hg;omega)
       ·have i5:=tf L.toNat 0 (by omega);have i6:((L.toNat:Int)!=0)=true:=by simp[bne,i5]
        have b3: ¬(L.toNat:Int)=0:=by omega
        have a8:=hid hL0;clear hL0
        have n1:(w5.setCell ⟨w1.heap.size,1,none⟩ (.slice (some ⟨gq,0,none⟩) RR c1)).ownsRow (w.heap.size+1+1+1+1) 5 1 (.slice (some ⟨gq,0,none⟩) RR c1) RR (aJ (st.take RR)):=by
         have:=c7.out;unfold BtB at this;rw[b5.out]at this;exact this
        have r8:=hid n1;clear n1;go_wp2_with (at_builtin;refine wpList_append_lies _ rfl _ _ _ rfl (w.heap.size+1+1+1+1) 5 t0 _ 1 1 (by kernel_rfl) y4 y5 y6 y9 rfl (by omega) _ RR (aJ (st.take RR)) rfl (r8.out.alloc _) ⟨w5.heap.size,0,none⟩ 1 1 [.int .u8 L.toNat] rfl rfl (World.news_of_block (cs:=#[.int .u8 L.toNat]) (t:=5) (fr:=(0,0)) (CB s2.out _)) (by simp[Value.oneCell']) (by omega) (by unfold maxLen;omega) (by omega) (by simp;omega) (w5.heap.size+1) (by simp) ?_);intro gg a4 w7 a5 a6 o0 v4;have g3:But (fun k'=>(Value.slice (some ⟨gq,0,none⟩) RR c1).ownBlock=some k') (w5.setCell ⟨w1.heap.size,1,none⟩ (.slice (some ⟨gq,0,none⟩) RR c1)) w7:=(But.alloc _ _ _).trans (aX a6)
        have hF: ∀k,k≠gq→ ¬(Value.slice (some ⟨gq,0,none⟩) RR c1).ownBlock=some k:=fun k hk h=>hk (by injection h with h;exact h.symm)
        have o6:=f4 gq rfl;have o5:=aj c7.out gq rfl;have e7:=f6.out.next g3 (fun k hk=>hF k (by omega));have g4:=(g3.block w1.heap.size (ae l5.out) (hF _ (by omega))).trans l5.out;have p0:=d6.out.but g3 (fun g hg=>hF g (fun h=>by have h1:=aj d6.out g hg;have h2:=j1 gq rfl;omega));have C2:=aj a5 gg rfl
        have t2:gg≠w1.heap.size:=fun h=>by
         rcases o0 with h'|h'
         ·have h2:gq=gg:=Option.some.inj h';omega
         ·omega
        clear b0 b1 b2 e0 e1 e2 r0 r1 r2 f0 f1 f2;obtain⟨b0,b1,b2⟩:=eY g4;obtain⟨e0,e1,e2⟩:=iJ g4;obtain⟨r0,r1,r2⟩:=eY e7.res;obtain⟨f0,f1,f2⟩:=iJ e7.res;have g1:But (· =w1.heap.size) w7 (w7.setCell ⟨w1.heap.size,1,none⟩ (.slice (some ⟨gg,0,none⟩) (RR+1) a4)):=But.setB w7 w1.heap.size 1 (.slice (some ⟨gg,0,none⟩) (RR+1) a4);have n5:=e7.next g1 (fun k hk h=>by omega);have p1:=p0.but g1 (fun g hg h=>by have:=f3 g hg;omega)
        have n2:BtB (w7.setCell ⟨w1.heap.size,1,none⟩ (.slice (some ⟨gg,0,none⟩) (RR+1) a4)) (w.heap.size+1+1+1+1) (.slice (some ⟨gg,0,none⟩) (st.take RR++ [L]).length a4) (st.take RR++ [L]):=by
         unfold BtB;rw[List.length_append,b5.out,aJ,List.map_append];exact ah a5 g1 (fun g hg h=>by simp[Value.ownBlock]at hg;omega)
        have m3:=hid n5;have l6:=hid p1;have m1:=hid n2;have v1:=e7.gt;have t6:=ae g4;clear e7 g4 p0 g3 a6 a5 o0 g1 n5 p1 n2 hF;go_wp2_with fail;refine kJ Tryz.results174 rfl rfl rfl m3.out.res (fun w9 h9 h9b=> ?_);have s9:(st.take RR++ [L]).length=RR+1:=by rw[List.length_append,b5.out];rfl
        refine⟨m3.out.but.next h9b (fun k hk h=>by omega),Or.inr ⟨st.take RR++ [L],lo,some ⟨gg,0,none⟩,a4,a2,c2,by rw[f8.out,if_neg a8.out],by rw[s9],?_,?_⟩⟩
        ·exact BtB.but (World.ownsRow.mono m1.out (by omega)) h9b (fun g hg h=>by have:=aj m1.out g hg;omega)
        ·exact BtB.but (World.ownsRow.mono l6.out (by omega)) h9b (fun g hg h=>by have:=aj l6.out g hg;omega)
     ·have m4:=tf op.toNat 108 (by omega);have i7:=f5.out;rw[if_neg (fun h=>h108 h.1)]at i7;have f8:=hid i7;clear i7 h108 h115;have o1:=b4.cap;have x5:(RR:Int)≤(c1:Int):=by omega
      have a7:But (· =w1.heap.size) w5 (w5.setCell ⟨w1.heap.size,1,none⟩ (.slice (some ⟨gq,0,none⟩) RR c1)):=But.setB w5 w1.heap.size 1 (.slice (some ⟨gq,0,none⟩) RR c1);have h5:=k3.out.next a7 (fun k hk h=>by omega);have o4:=heap_setCell_same w5 w1.heap.size 1 _ _ (.slice (some ⟨gq,0,none⟩) RR c1) l4.out;have e5:(st.take RR).length=RR:=by simp;omega
      have h0:=b4.pre (n:=RR) (by omega);have e4:=h0.but a7 (fun g hg h=>by have:=f4 g hg;omega);have h6:=g5.but a7 (fun g hg h=>by have:=f3 g hg;omega);have p3:(w5.setCell ⟨w1.heap.size,1,none⟩ (.slice (some ⟨gq,0,none⟩) RR c1)).heap.size=w5.heap.size:=br _ _ _;have b5:=hid e5;rw[e5]at e4;have c7:=hid e4;have d6:=hid h6;have f6:=hid h5;have l5:=hid o4;have z2:=hid a7;have s2:=hid p3;have D6:=ae l4.out;clear a7 h5 o4 h0 e4 h6 e5 p3 f5
      by_cases hL0:L.toNat=0
      ·have i5:((L.toNat:Int)==0)=true:=by rw[beq_iff_eq];omega
       have i6:((L.toNat:Int)!=0)=false:=by simp[bne,i5]
       have b3:(L.toNat:Int)=0:=by omega
       have r3:=hid b3;clear b3;have a8:=hid hL0;clear hL0;go_wp2_with fail;refine kJ Tryz.results174 rfl rfl rfl f6.out.res (fun w9 h9 h9b=> ?_);refine⟨f6.out.but.next h9b (fun k hk h=>by omega),Or.inr ⟨st.take RR,lo,some ⟨gq,0,none⟩,c1,a2,c2,by rw[f8.out,if_pos a8.out,List.append_nil],by rw[b5.out],?_,?_⟩⟩
       ·rw[b5.out];exact BtB.but (World.ownsRow.mono c7.out (by omega)) h9b (fun g hg h=>by have:=aj c7.out g hg;omega)
       ·exact BtB.but (World.ownsRow.mono d6.out (by omega)) h9b (fun g hg h=>by have:=aj d6.out g hg;omega)
      ·have i5:=tf L.toNat 0 (by omega);have i6:((L.toNat:Int)!=0)=true:=by simp[bne,i5]
       have b3: ¬(L.toNat:Int)=0:=by omega
       have a8:=hid hL0;clear hL0
       have n1:(w5.setCell ⟨w1.heap.size,1,none⟩ (.slice (some ⟨gq,0,none⟩) RR c1)).ownsRow (w.heap.size+1+1+1+1) 5 1 (.slice (some ⟨gq,0,none⟩) RR c1) RR (aJ (st.take RR)):=by
        have:=c7.out;unfold BtB at this;rw[b5.out]at this;exact this
       have r8:=hid n1;clear n1;go_wp2_with (at_builtin;refine wpList_append_lies _ rfl _ _ _ rfl (w.heap.size+1+1+1+1) 5 t0 _ 1 1 (by kernel_rfl) y4 y5 y6 y9 rfl (by omega) _ RR (aJ (st.take RR)) rfl (r8.out.alloc _) ⟨w5.heap.size,0,none⟩ 1 1 [.int .u8 L.toNat] rfl rfl (World.news_of_block (cs:=#[.int .u8 L.toNat]) (t:=5) (fr:=(0,0)) (CB s2.out _)) (by simp[Value.oneCell']) (by omega) (by unfold maxLen;omega) (by omega) (by simp;omega) (w5.heap.size+1) (by simp) ?_);intro gg a4 w7 a5 a6 o0 v4;have g3:But (fun k'=>(Value.slice (some ⟨gq,0,none⟩) RR c1).ownBlock=some k') (w5.setCell ⟨w1.heap.size,1,none⟩ (.slice (some ⟨gq,0,none⟩) RR c1)) w7:=(But.alloc _ _ _).trans (aX a6)
       have hF: ∀k,k≠gq→ ¬(Value.slice (some ⟨gq,0,none⟩) RR c1).ownBlock=some k:=fun k hk h=>hk (by injection h with h;exact h.symm)
       have o6:=f4 gq rfl;have o5:=aj c7.out gq rfl;have e7:=f6.out.next g3 (fun k hk=>hF k (by omega));have g4:=(g3.block w1.heap.size (ae l5.out) (hF _ (by omega))).trans l5.out;have p0:=d6.out.but g3 (fun g hg=>hF g (fun h=>by have h1:=aj d6.out g hg;have h2:=j1 gq rfl;omega));have C2:=aj a5 gg rfl
       have t2:gg≠w1.heap.size:=fun h=>by
        rcases o0 with h'|h'
        ·have h2:gq=gg:=Option.some.inj h';omega
        ·omega
       clear b0 b1 b2 e0 e1 e2 r0 r1 r2 f0 f1 f2;obtain⟨b0,b1,b2⟩:=eY g4;obtain⟨e0,e1,e2⟩:=iJ g4;obtain⟨r0,r1,r2⟩:=eY e7.res;obtain⟨f0,f1,f2⟩:=iJ e7.res;have g1:But (· =w1.heap.size) w7 (w7.setCell ⟨w1.heap.size,1,none⟩ (.slice (some ⟨gg,0,none⟩) (RR+1) a4)):=But.setB w7 w1.heap.size 1 (.slice (some ⟨gg,0,none⟩) (RR+1) a4);have n5:=e7.next g1 (fun k hk h=>by omega);have p1:=p0.but g1 (fun g hg h=>by have:=f3 g hg;omega)
       have n2:BtB (w7.setCell ⟨w1.heap.size,1,none⟩ (.slice (some ⟨gg,0,none⟩) (RR+1) a4)) (w.heap.size+1+1+1+1) (.slice (some ⟨gg,0,none⟩) (st.take RR++ [L]).length a4) (st.take RR++ [L]):=by
        unfold BtB;rw[List.length_append,b5.out,aJ,List.map_append];exact ah a5 g1 (fun g hg h=>by simp[Value.ownBlock]at hg;omega)
       have m3:=hid n5;have l6:=hid p1;have m1:=hid n2;have v1:=e7.gt;have t6:=ae g4;clear e7 g4 p0 g3 a6 a5 o0 g1 n5 p1 n2 hF;go_wp2_with fail;refine kJ Tryz.results174 rfl rfl rfl m3.out.res (fun w9 h9 h9b=> ?_);have s9:(st.take RR++ [L]).length=RR+1:=by rw[List.length_append,b5.out];rfl
       refine⟨m3.out.but.next h9b (fun k hk h=>by omega),Or.inr ⟨st.take RR++ [L],lo,some ⟨gg,0,none⟩,a4,a2,c2,by rw[f8.out,if_neg a8.out],by rw[s9],?_,?_⟩⟩
       ·exact BtB.but (World.ownsRow.mono m1.out (by omega)) h9b (fun g hg h=>by have:=aj m1.out g hg;omega)
       ·exact BtB.but (World.ownsRow.mono l6.out (by omega)) h9b (fun g hg h=>by have:=aj l6.out g hg;omega)
end
end Go.Proofs.YtpfkkmacakjmbaaGreatDoor
