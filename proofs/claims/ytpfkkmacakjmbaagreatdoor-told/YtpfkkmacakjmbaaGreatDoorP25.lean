import Derived.Test.YtpfkkmacakjmbaaGreatDoorP16
set_option maxRecDepth 100000
set_option maxHeartbeats 6400000
set_option linter.unusedSimpArgs false
set_option linter.unusedVariables false
namespace Go.Proofs.YtpfkkmacakjmbaaGreatDoor
section
open Go Go.RowKit Sp
theorem fo {w:World} {base:Nat} {v:Value} {l:List UInt8} (h:BtB w base v l):(convert 112 9 v).run Tryz.prog w= .ok (.string ⟨l.toArray⟩) w:=by
 obtain⟨ao,cap,rfl⟩:=aw h
 cases ao with
 |none=>
  have hm:l.length=0:=by
   rcases Nat.eq_zero_or_pos l.length with h'|h'
   ·exact h'
   ·obtain⟨g,hg,_⟩:=aI h h'
    cases hg
  have a1:l=[]:=List.length_eq_zero_iff.1 hm;subst a1;have a2:Tryz.prog.underlying 112=some (.slice 5):=by kernel_rfl
  have a3:Tryz.prog.underlying 9=some .string:=by kernel_rfl
  have a4:Tryz.prog.underlying 5=some (.int .u8):=by kernel_rfl
  have h9:=run_convert_bytes_string (P:=Tryz.prog) w 112 9 5 none 0 cap a2 a4 a3;refine h9.trans ?_;simp[Conv.bytesToString]
  rfl
 |some ad=>
  refine(?_ :(convert 112 9 (.slice (some ad) l.length cap)).run Tryz.prog w=_);refine run_convert_bytes_back w 112 9 5 ad cap l (by kernel_rfl) (by kernel_rfl) (by kernel_rfl) ?_;intro j hj;obtain⟨g,hg,a5,a6,hc⟩:=aI h (by omega);have a0:=Option.some.inj hg;rw[a0];have h3:=hc j _ (cZ hj);have e:(⟨g,0,none⟩:Addr).add j=⟨g,j,none⟩:=by simp[Addr.add];exact fun h=>h.symm
  rw[e,h3];simp[List.getD,hj]
end
section
open Go Go.RowKit Sp
attribute [local go_sem ↓] Go.wp_at_zero Go.wp_at_succ
def xsV (kn:Bool) (vs vl:Value):Value:= .agg #[.bool kn,vs,vl]
theorem ml (bx:Nat) (kn:Bool) (aa al:Option Addr) (cs cl:Nat) (st lo:List UInt8) (w:World) (hs:BtB w bx (.slice aa st.length cs) st) (hl:BtB w bx (.slice al lo.length cl) lo) (h1:st.length≤1000) (h2:lo.length≤1000):
  Calls Tryz.prog 171 #[xsV kn (.slice aa st.length cs) (.slice al lo.length cl)] w fun en w'=>But (fun _=>False) w w'∧ ∃a1 c1 a2 c2 B2,en= .returned (xsV kn (.slice a1 st.length c1) (.slice a2 lo.length c2))∧BtB w' w.heap.size (.slice a1 st.length c1) st∧BtB w' B2 (.slice a2 lo.length c2) lo∧w.heap.size≤B2∧(∀g,(Value.slice a1 st.length c1).ownBlock=some g→g<B2)∧(Value.slice a1 st.length c1).ownBlock≠none:=by
 unfold xsV;have e0:But (fun _=>False) w ((w.alloc (.cells #[.bool kn,.slice aa st.length cs,.slice al lo.length cl] 117)).alloc (.cells #[.bool false,.slice none 0 0,.slice none 0 0] 117)):=(But.alloc _ _ _).trans (But.alloc _ _ _);have f5:((w.alloc (.cells #[.bool kn,.slice aa st.length cs,.slice al lo.length cl] 117)).alloc (.cells #[.bool false,.slice none 0 0,.slice none 0 0] 117)).heap.size=w.heap.size+1+1:=by simp
 have e8:((w.alloc (.cells #[.bool kn,.slice aa st.length cs,.slice al lo.length cl] 117)).alloc (.cells #[.bool false,.slice none 0 0,.slice none 0 0] 117)).heap[w.heap.size]?=some (.cells #[.bool kn,.slice aa st.length cs,.slice al lo.length cl] 117):=by
  rw[(But.alloc (fun _=>False) (w.alloc (.cells #[.bool kn,.slice aa st.length cs,.slice al lo.length cl] 117)) (.cells #[.bool false,.slice none 0 0,.slice none 0 0] 117)).block w.heap.size (ae (heap_alloc_new w _)) (fun h=>h)];exact heap_alloc_new w _
 have e6:((w.alloc (.cells #[.bool kn,.slice aa st.length cs,.slice al lo.length cl] 117)).alloc (.cells #[.bool false,.slice none 0 0,.slice none 0 0] 117)).heap[w.heap.size+1]?=some (.cells #[.bool false,.slice none 0 0,.slice none 0 0] 117):=aq (by simp) _;have hE:=BtB.empty ((w.alloc (.cells #[.bool kn,.slice aa st.length cs,.slice al lo.length cl] 117)).alloc (.cells #[.bool false,.slice none 0 0,.slice none 0 0] 117));have b0:But (fun _=>False) ((w.alloc (.cells #[.bool kn,.slice aa st.length cs,.slice al lo.length cl] 117)).alloc (.cells #[.bool false,.slice none 0 0,.slice none 0 0] 117)) (((w.alloc (.cells #[.bool kn,.slice aa st.length cs,.slice al lo.length cl] 117)).alloc (.cells #[.bool false,.slice none 0 0,.slice none 0 0] 117)).alloc (.cells #[] 5)):=But.alloc _ _ _
 rw[f5]at hE;have f4:=(hs.but e0 (fun _ _ h=>h)).but b0 (fun _ _ h=>h);have f1:=(hl.but e0 (fun _ _ h=>h)).but b0 (fun _ _ h=>h);have f6:((w.alloc (.cells #[.bool kn,.slice aa st.length cs,.slice al lo.length cl] 117)).alloc (.cells #[.bool false,.slice none 0 0,.slice none 0 0] 117)).alloc (.cells #[] 5) |>.heap.size |> (w.heap.size+1+1≤ ·):=by simp
 have HN:Hid ([]++st=st):=hid (by simp);have e1:=hid (b0.kp e8);have e2:=hid ((b0.block (w.heap.size+1) (ae e6) (fun h=>h)).trans e6);have g5:=e0.trans b0;clear e8 e6 e0 b0 f5
 go_in
 go_wp2_with (at_builtin;refine bk rfl _ _ rfl (w.heap.size+1+1) bx _ _ [] st st HN rfl rfl hE f4 (by omega) f6 ?_);intro a1 c1 w3 h3 c6 h0;have b6:(Value.slice (some ⟨w.heap.size+1+1,0,none⟩) 0 0).ownBlock=some (w.heap.size+1+1):=rfl
 have f3:(Value.slice a1 st.length c1).ownBlock≠none:=fun h=>by
  rcases h0 with h'|h'<;>(rw[h]at h';cases h')
 have f8:=hid f3;clear f3;have hF: ∀k,k<w.heap.size+1+1→ ¬(Value.slice (some ⟨w.heap.size+1+1,0,none⟩) 0 0).ownBlock=some k:=fun k hk h=>by rw[b6]at h;injection h with h;omega
 have a8:=(c6.block w.heap.size (ae e1.out) (hF _ (by omega))).trans e1.out;have a9:=(c6.block (w.heap.size+1) (ae e2.out) (hF _ (by omega))).trans e2.out;have f2:=f1.but c6 (fun g hg=>hF g (by have:=aW hl g hg;omega));have b3:But (fun _=>False) w w3:=g5.next c6 (fun k hk h=>hF k (by omega) h);have a4:=aW h3;have b9:=aA h3;have h9:=b3.size;have f0:=ae a9;have e9:w.heap.size<w3.heap.size:=by omega
 have g6:=BtB.empty w3;have d6:But (fun _=>False) w3 (w3.alloc (.cells #[] 5)):=But.alloc _ _ _;have g7:=f2.but d6 (fun _ _ h=>h);have h6:=h3.but d6 (fun _ _ h=>h);have h8:w3.heap.size≤(w3.alloc (.cells #[] 5)).heap.size:=d6.size;have hq:=ce2 a8;have f7:Hid ([]++lo=lo):=hid (by simp);have a5:=hid a8;have a6:=hid a9;have HF:=hid hF;clear a8 a9 hF b6 e1 e2 f4 f1 hE f6 h3 f2;go_wp2_with (at_builtin;refine bk rfl _ _ rfl w3.heap.size bx _ _ [] lo lo f7 rfl rfl g6 g7 (by omega) h8 ?_);intro a2 c2 w5 h5 e7 h4;have a3:(Value.slice (some ⟨w3.heap.size,0,none⟩) 0 0).ownBlock=some w3.heap.size:=rfl;have b4: ∀k,k<w3.heap.size→ ¬(Value.slice (some ⟨w3.heap.size,0,none⟩) 0 0).ownBlock=some k:=fun k hk h=>by rw[a3]at h;injection h with h;omega
 have a7:But (fun k=>(Value.slice (some ⟨w3.heap.size,0,none⟩) 0 0).ownBlock=some k) w3 w5:=(d6.mono (fun _ _ h=>h.elim)).trans e7;have b5:=(a7.block w.heap.size (ae a5.out) (b4 _ (by omega))).trans a5.out;have a0:=(a7.block (w.heap.size+1) (ae a6.out) (b4 _ (by omega))).trans a6.out;have h7:=h6.but e7 (fun g hg=>b4 g (a4 g hg));have e5:But (fun _=>False) w w5:=b3.next a7 (fun k hk h=>b4 k (by omega) h);have e4:=aA h5;have q0:=ce0 b5;have y0:w5.cell? ⟨w.heap.size+1,0,none⟩=some (.bool false):=by rw[cell_of_row w5 (w.heap.size+1) 0 _ _ (0,0) a0];rfl
 have y1:w5.cell? ⟨w.heap.size+1,1,none⟩=some (.slice none 0 0):=by rw[cell_of_row w5 (w.heap.size+1) 1 _ _ (0,0) a0];rfl
 have y2:w5.cell? ⟨w.heap.size+1,2,none⟩=some (.slice none 0 0):=by rw[cell_of_row w5 (w.heap.size+1) 2 _ _ (0,0) a0];rfl
 have g0:w5.frozen? ⟨w.heap.size+1,0,none⟩=false:=frozen_of_row w5 (w.heap.size+1) 0 _ _ a0;have g1:w5.frozen? ⟨w.heap.size+1,1,none⟩=false:=frozen_of_row w5 (w.heap.size+1) 1 _ _ a0;have g2:w5.frozen? ⟨w.heap.size+1,2,none⟩=false:=frozen_of_row w5 (w.heap.size+1) 2 _ _ a0;have e3:=hid a0;clear b5 a0 a5 a6 hq a3 b4;go_wp2_with fail;have g3:=heap_setCell_same w5 (w.heap.size+1) 0 _ _ (.bool kn) e3.out;have g4:=heap_setCell_same _ (w.heap.size+1) 1 _ _ (.slice a1 st.length c1) g3;have b1:=heap_setCell_same _ (w.heap.size+1) 2 _ _ (.slice a2 lo.length c2) g4;have b2:=((But.setB w5 (w.heap.size+1) 0 (.bool kn)).trans (But.setB _ (w.heap.size+1) 1 (.slice a1 st.length c1))).trans (But.setB _ (w.heap.size+1) 2 (.slice a2 lo.length c2))
 revert b1 b2;generalize (((w5.setCell ⟨w.heap.size+1,0,none⟩ (.bool kn)).setCell ⟨w.heap.size+1,1,none⟩ (.slice a1 st.length c1)).setCell ⟨w.heap.size+1,2,none⟩ (.slice a2 lo.length c2))=w6;intro b1 b2;have r0:w6.cell? ⟨w.heap.size+1,0,none⟩=some (.bool kn):=by rw[cell_of_row w6 (w.heap.size+1) 0 _ _ (0,0) b1];rfl
 have r1:w6.cell? ⟨w.heap.size+1,1,none⟩=some (.slice a1 st.length c1):=by rw[cell_of_row w6 (w.heap.size+1) 1 _ _ (0,0) b1];rfl
 have r2:w6.cell? ⟨w.heap.size+1,2,none⟩=some (.slice a2 lo.length c2):=by rw[cell_of_row w6 (w.heap.size+1) 2 _ _ (0,0) b1];rfl
 exact bodyPost_ret (v:= .agg #[.bool kn,.slice a1 st.length c1,.slice a2 lo.length c2]) (by simp[results,Tryz.results171,go_sem,r0,r1,r2]) rfl
  ⟨e5.next b2 (fun k hk h=>by omega),a1,c1,a2,c2,w3.heap.size,rfl,BtB.but (World.ownsRow.mono h7 (by omega)) b2 (fun g hg h=>by have:=b9 g hg;omega),BtB.but h5 b2 (fun g hg h=>by have:=e4 g hg;omega),by omega,a4,f8.out⟩
theorem pr (aa al:Option Addr) (cs cl:Nat) (st lo:List UInt8) (w:World) (hs:BtB w 0 (.slice aa st.length cs) st) (hl:BtB w 0 (.slice al lo.length cl) lo):
  Calls Tryz.prog 173 #[.slice aa st.length cs,.slice al lo.length cl] w fun en w'=>en= .returned (.bool (decide (st=lo)))∧w'=w:=by
 have a0:=fo hs;have a1:=fo hl
 go_in
 go_wp2_with fail;exact bodyPost_ret (v:= .bool (decide (st=lo))) (by simp[results,Tryz.results173,go_sem];rw[Bool.eq_iff_iff];simp) rfl ⟨rfl,rfl⟩
def gO (cs:List bv) (st asked:List UInt8):Bool:=(List.range asked.length).all fun i=>bW cs (st.getD (st.length-asked.length+i) 0) (asked.getD i 0)
def qA (cs:List bv) (ms:List Sig) (x:XIt) (ans:UInt8) (st lo:List UInt8):Option (List UInt8×List UInt8):=
 if st.length<(ay cs ms x.op x.cls x.num ans).length∨gO cs st (ay cs ms x.op x.cls x.num ans)=false then none else
 if x.op.toNat=115∧ ¬x.num<lo.length then none else
 if x.op.toNat=108∧(aF cs ms x.op x.cls x.num (if x.op.toNat=115 then lo.set x.num (st.getD (st.length-(ay cs ms x.op x.cls x.num ans).length) 0)else lo)).toNat=45 then none else
 some (st.take (st.length-(ay cs ms x.op x.cls x.num ans).length)++(if(aF cs ms x.op x.cls x.num (if x.op.toNat=115 then lo.set x.num (st.getD (st.length-(ay cs ms x.op x.cls x.num ans).length) 0)else lo)).toNat=0 then []else [aF cs ms x.op x.cls x.num (if x.op.toNat=115 then lo.set x.num (st.getD (st.length-(ay cs ms x.op x.cls x.num ans).length) 0)else lo)]),
  if x.op.toNat=115 then lo.set x.num (st.getD (st.length-(ay cs ms x.op x.cls x.num ans).length) 0)else lo)
structure BhW (w wx:World) (c r:UInt8) (m:Nat) (vl vi:Value) (pl nu:Nat) (op ic:UInt8) (pa:Option Addr) (pn pc:Nat):Prop where
 but:But (fun _=>False) w wx
 bod:wx.heap[w.heap.size]?=some (.cells #[.int .u8 c.toNat,.int .i64 m,.int .u8 r.toNat,vl,vi] 115)
 item:wx.heap[w.heap.size+1]?=some (.cells #[.int .i64 pl,.int .u8 op.toNat,.int .u8 ic.toNat,.int .i64 nu,.slice pa pn pc] 219)
 res:wx.heap[w.heap.size+1+1+1]?=some (.cells #[.bool false,.slice none 0 0,.slice none 0 0] 117)
section
variable {w w1 w2:World} {c r:UInt8} {m:Nat} {vl vi:Value} {pl nu:Nat} {op ic:UInt8} {pa:Option Addr} {pn pc:Nat}
theorem BhW.next {F:Nat→Prop} (h:BhW w w1 c r m vl vi pl nu op ic pa pn pc) (hb:But F w1 w2) (hF: ∀k,k<w.heap.size+4→ ¬F k):BhW w w2 c r m vl vi pl nu op ic pa pn pc:=
 ⟨h.but.next hb (fun k hk hf=>hF k (by omega) hf),(hb.block _ (ae h.bod) (hF _ (by omega))).trans h.bod,(hb.block _ (ae h.item) (hF _ (by omega))).trans h.item,(hb.block _ (ae h.res) (hF _ (by omega))).trans h.res⟩
theorem BhW.gt (h:BhW w w1 c r m vl vi pl nu op ic pa pn pc):w.heap.size+3<w1.heap.size:=ae h.res
end
theorem i8 {w:World} {g t:Nat} {x0 x1 x2:Value} (h:w.heap[g]?=some (.cells #[x0,x1,x2] t)):w.frozen? ⟨g,0,none⟩=false∧w.frozen? ⟨g,1,none⟩=false∧w.frozen? ⟨g,2,none⟩=false:=
 ⟨frozen_of_row w g 0 _ _ h,frozen_of_row w g 1 _ _ h,frozen_of_row w g 2 _ _ h⟩
def zU (w:World) (g:Nat) (x0 x1 x2:Value):World:=((w.setCell ⟨g,0,none⟩ x0).setCell ⟨g,1,none⟩ x1).setCell ⟨g,2,none⟩ x2
theorem pu {w:World} {g t:Nat} {a0 a1 a2:Value} (h:w.heap[g]?=some (.cells #[a0,a1,a2] t)) (x0 x1 x2:Value):(zU w g x0 x1 x2).heap[g]?=some (.cells #[x0,x1,x2] t):=by
 have h1:=heap_setCell_same w g 0 _ _ x0 h;have h2:=heap_setCell_same _ g 1 _ _ x1 h1;exact heap_setCell_same _ g 2 _ _ x2 h2
theorem sd (w:World) (g:Nat) (x0 x1 x2:Value):But (· =g) w (zU w g x0 x1 x2):=((But.setB w g 0 x0).trans (But.setB _ g 1 x1)).trans (But.setB _ g 2 x2)
theorem ly {fn:Func} {R:Ending→World→Prop} {a:Act} {w:World} {c f g:Nat} {a0 a1 a2 x0 x1 x2:Value} {e:Bool} (hf:fn.results=#[.cell c 117,.tmp f]) (hd:a.defers=[]) (hc:a.tmps.getD c undef= .pointer (some ⟨g,0,none⟩)) (he:a.tmps.getD f undef= .bool e) (h:w.heap[g]?=some (.cells #[a0,a1,a2] 117)) (hR: ∀w9,w9.heap[g]?=some (.cells #[x0,x1,x2] 117)→But (· =g) w w9→R (.returned (.tuple #[.agg #[x0,x1,x2],.bool e])) w9):bodyPost Tryz.prog fn R .ret a (((w.setCell ⟨g,0,none⟩ x0).setCell ⟨g,1,none⟩ x1).setCell ⟨g,2,none⟩ x2):=by
 have h9:=pu h x0 x1 x2;have r0:=ce0 h9;have r1:=ce1 h9;have r2:=ce2 h9;refine bodyPost_ret (v:= .tuple #[.agg #[x0,x1,x2],.bool e]) ?_ hd (hR _ h9 (sd w g x0 x1 x2));have a3:a.tmps[c]?.getD undef= .pointer (some ⟨g,0,none⟩):=by simpa using hc
 have a4:a.tmps[f]?.getD undef= .bool e:=by simpa using he
 unfold zU at r0 r1 r2;simp[results,hf,a3,a4,go_sem,r0,r1,r2]
theorem BtB.pre {w:World} {base g cap n:Nat} {l:List UInt8} (h:BtB w base (.slice (some ⟨g,0,none⟩) l.length cap) l) (hn:n≤l.length):BtB w base (.slice (some ⟨g,0,none⟩) (l.take n).length cap) (l.take n):=by
 have hl:(l.take n).length=n:=by simp;omega
 rcases h.2 with⟨h1,_⟩ | ⟨g',cap',cur,h1,h2,h3,h4,h5,h6,h7⟩
 ·cases h1
 ·have e1:cap=cap':=congrArg (fun v=>match v with|Value.slice _ _ c=>c|_=>0) h1
  have e2:g=g':=by
   have:=congrArg (fun v=>match v with|Value.slice (some a) _ _=>a.block|_=>0) h1;exact this
  subst e1 e2;refine⟨by simp[aM],Or.inr ⟨g,cap,cur,by rw[hl],h2,h3,by rw[hl];omega,h5,h6,?_⟩⟩;rw[hl];simp only[Nat.mul_one]at h7⊢;have:cur.toList.take n=(cur.toList.take l.length).take n:=by rw[List.take_take,Nat.min_eq_left hn]
  rw[this,h7];simp[aM,List.map_take]
theorem BtB.cap {w:World} {base cap:Nat} {ao:Option Addr} {l:List UInt8} (h:BtB w base (.slice ao l.length cap) l):l.length≤cap:=by
 rcases h.2 with⟨h1,h2⟩ | ⟨g',cap',cur,h1,_,_,h4,_⟩
 ·omega
 ·have e1:cap=cap':=congrArg (fun v=>match v with|Value.slice _ _ c=>c|_=>0) h1;rw[e1];exact h4
theorem BtB.put {w:World} {base g cap k:Nat} {l:List UInt8} (h:BtB w base (.slice (some ⟨g,0,none⟩) l.length cap) l) (c:UInt8):BtB (w.setCell ⟨g,k,none⟩ (.int .u8 c.toNat)) base (.slice (some ⟨g,0,none⟩) l.length cap) (l.set k c):=by
 rcases h.2 with⟨h1,_⟩ | ⟨g',cap',cur,h1,h2,h3,h4,h5,h6,h7⟩
 ·cases h1
 ·have e1:cap=cap':=congrArg (fun v=>match v with|Value.slice _ _ c=>c|_=>0) h1;have e2:g=g':=congrArg (fun v=>match v with|Value.slice (some a) _ _=>a.block|_=>0) h1;subst e1 e2;refine⟨by simp[aM],Or.inr ⟨g,cap,cur.setIfInBounds k (.int .u8 c.toNat),by simp,h2,heap_setCell_same w g k _ _ _ h3,by simpa using h4,h5,by simpa using h6,?_⟩⟩;simp only[Nat.mul_one,List.length_set]at h7⊢;rw[Array.toList_setIfInBounds,List.take_set,h7];simp[aM,List.map_set]
theorem BtB.row {w:World} {base g cap:Nat} {n:Nat} {l:List UInt8} (h:BtB w base (.slice (some ⟨g,0,none⟩) n cap) l): ∃cur,w.heap[g]?=some (.cells cur 5):=by
 rcases h.2 with⟨h1,_⟩ | ⟨g',cap',cur,h1,h2,h3,_⟩
 ·cases h1
 ·have e2:g=g':=congrArg (fun v=>match v with|Value.slice (some a) _ _=>a.block|_=>0) h1;subst e2;exact⟨cur,h3⟩
theorem tX (cs:List bv) (ms:List Sig) (c k:UInt8) (n:Nat) (ans:UInt8):(ay cs ms c k n ans).length≤2:=by
 unfold ay
 repeat' split
 all_goals simp
theorem si (b:Nat) (cs:List bv) (ms:List Sig) (c r:UInt8) (m:Nat) (vl vi:Value) (x:XIt) (aa al:Option Addr) (ca cl:Nat) (st lo:List UInt8) (w:World) (hn:cs.length≤100) (hm:ms.length≤100) (hT:TxC w b cs) (hM:TxM w b ms)
  (hvl:vl.oneCell'=true) (hvi:vi.oneCell'=true) (hs:BtB w 0 (.slice aa st.length ca) st) (hl:BtB w 0 (.slice al lo.length cl) lo) (h1:st.length≤200) (h2:lo.length≤200):
  Calls Tryz.prog 174 #[.pointer (some ⟨b,0,none⟩),hdV c m r vl vi,itV x,xsV true (.slice aa st.length ca) (.slice al lo.length cl)] w fun en w'=>But (fun _=>False) w w'∧
   ((qA cs ms x r st lo=none∧en= .returned (.tuple #[xsV false (.slice none 0 0) (.slice none 0 0),.bool false]))∨
    (∃st' lo' a1 c1 a2 c2,qA cs ms x r st lo=some (st',lo')∧en= .returned (.tuple #[xsV true (.slice a1 (List.length st') c1) (.slice a2 (List.length lo') c2),.bool true])∧BtB w' w.heap.size (.slice a1 st'.length c1) st'∧BtB w' w.heap.size (.slice a2 lo'.length c2) lo')):=by
 obtain⟨pl,op,ic,nu,pa,pn,pc⟩:=x;obtain⟨t0,y0,y1,y2,y3⟩:=info_parts iG;unfold hdV itV xsV
 have p4:BhW w ((((w.alloc (.cells #[.int .u8 c.toNat,.int .i64 m,.int .u8 r.toNat,vl,vi] 115)).alloc (.cells #[.int .i64 pl,.int .u8 op.toNat,.int .u8 ic.toNat,.int .i64 nu,.slice pa pn pc] 219)).alloc (.cells #[.bool true,.slice aa st.length ca,.slice al lo.length cl] 117)).alloc (.cells #[.bool false,.slice none 0 0,.slice none 0 0] 117)) c r m vl vi pl nu op ic pa pn pc:=by
  refine⟨(((But.alloc _ _ _).trans (But.alloc _ _ _)).trans (But.alloc _ _ _)).trans (But.alloc _ _ _),?_,?_,aq (by simp) _⟩
  ·rw[Below.heap_alloc _ _ _ (by simp;omega),Below.heap_alloc _ _ _ (by first| (simp;done) | (simp;omega)),Below.heap_alloc _ _ _ (by first| (simp;done) | (simp;omega))];exact heap_alloc_new w _
  ·rw[Below.heap_alloc _ _ _ (by simp),Below.heap_alloc _ _ _ (by simp)];exact aq (by simp) _
 have x9:=hs.but p4.but (fun _ _ h=>h);have x6:=hl.but p4.but (fun _ _ h=>h);have v9:=hid p4;have q9:=hid (ml 0 true aa al ca cl st lo _ x9 x6 (by omega) (by omega));have y5:((((w.alloc (.cells #[.int .u8 c.toNat,.int .i64 m,.int .u8 r.toNat,vl,vi] 115)).alloc (.cells #[.int .i64 pl,.int .u8 op.toNat,.int .u8 ic.toNat,.int .i64 nu,.slice pa pn pc] 219)).alloc (.cells #[.bool true,.slice aa st.length ca,.slice al lo.length cl] 117)).alloc (.cells #[.bool false,.slice none 0 0,.slice none 0 0] 117)).heap.size=w.heap.size+1+1+1+1:=by simp
 have w6:=hid y5;clear p4 x9 x6 y5;unfold xsV at q9
 go_in
 go_wp2_with fail;refine q9.out.mono ?_;rintro en w1 ⟨x0,a1,c1,a2,c2,G2,rfl,o6,t9,z0,i7,v2⟩;have n2:=v9.out.next x0 (fun _ _ h=>h);rw[w6.out]at o6 z0
 obtain⟨gq,A1⟩: ∃gq,a1=some ⟨gq,0,none⟩:=by
  rcases o6.2 with⟨h,_⟩ | ⟨g,cap,cur,h,_⟩
  ·rw[h]at v2;exact absurd rfl v2
  ·exact⟨g,congrArg (fun v=>match v with|Value.slice a _ _=>a|_=>none) h⟩
 subst A1;clear v2;clear q9 v9 w6 x0;have C0:=n2.gt;have f5:But (fun _=>False) w1 (w1.alloc (.cells #[.bool true,.slice (some ⟨gq,0,none⟩) st.length c1,.slice a2 lo.length c2] 117)):=But.alloc _ _ _;have p5:=heap_alloc_new w1 (.cells #[.bool true,.slice (some ⟨gq,0,none⟩) st.length c1,.slice a2 lo.length c2] 117);have j7:=n2.next f5 (fun _ _ h=>h);have q6:=o6.but f5 (fun _ _ h=>h);have q4:=t9.but f5 (fun _ _ h=>h);have e9:=aW o6;have e8:=aW t9;obtain⟨i0,i1,i2,i3,i4⟩:=bn n2.item;obtain⟨d0,d1,d2,d3,d4⟩:=bn n2.bod;have l0:w.heap.size<w1.heap.size:=by omega
 have l1:w.heap.size+1<w1.heap.size:=by omega
 clear n2 o6 t9;go_wp2_with fail;revert f5 p5 j7 q6 q4;generalize (w1.alloc (.cells #[.bool true,.slice (some ⟨gq,0,none⟩) st.length c1,.slice a2 lo.length c2] 117))=w2;intro f5 p5 j7 q6 q4;have r4:=hid (kA (ap:=pa) (np:=pn) (cp:=pc) b cs ms pl nu op ic r w2 hn hm (hT.but j7.but) (hM.but j7.but));have z4:=tX cs ms op ic nu r
 have v5:Hid (∀T,ay cs ms op ic nu r=T→qA cs ms ⟨pl,op,ic,nu,pa,pn,pc⟩ r st lo=
   if st.length<T.length∨gO cs st T=false then none else
   if op.toNat=115∧ ¬nu<lo.length then none else
   if op.toNat=108∧(aF cs ms op ic nu (if op.toNat=115 then lo.set nu (st.getD (st.length-T.length) 0)else lo)).toNat=45 then none else
   some (st.take (st.length-T.length)++(if(aF cs ms op ic nu (if op.toNat=115 then lo.set nu (st.getD (st.length-T.length) 0)else lo)).toNat=0 then []else [aF cs ms op ic nu (if op.toNat=115 then lo.set nu (st.getD (st.length-T.length) 0)else lo)]),
    if op.toNat=115 then lo.set nu (st.getD (st.length-T.length) 0)else lo)):=hid (fun T h=>by subst h;rfl)
 obtain⟨T,p3⟩: ∃T,ay cs ms op ic nu r=T:=⟨_,rfl⟩;have h6:=hid (v5.out T p3);have h0:op.toNat=115→0<T.length:=fun h=>by rw[←p3];simp[ay,h]
 have m1:=hid h0;clear h0;rw[p3]at r4 z4;clear v5 p3;refine r4.out.mono ?_;rintro en w3 ⟨m5,v3,rfl,w8⟩;obtain⟨a3,c3,C7⟩:=aw w8;subst C7;clear r4;have n3:=j7.next m5 (fun _ _ h=>h);have C6:=q6.but m5 (fun _ _ h=>h);have C3:=q4.but m5 (fun _ _ h=>h);have p6:=m5.kp p5;have s9:=ae p6;have C8:=m5.size;obtain⟨b0,b1,b2⟩:=fm p6;obtain⟨i0,i1,i2,i3,i4⟩:=bn n3.item;obtain⟨r0,r1,r2⟩:=fm n3.res;obtain⟨f0,f1,f2⟩:=i8 n3.res;have r5:=hid n3;have y7:=hid p6;clear j7 q6 q4 p5 f5 p6 n3 d0 d1 d2 d3 d4
 by_cases hlen:st.length<T.length
 ·have C5:(st.length:Int)-(T.length:Int)<0:=by omega
  have hN:qA cs ms ⟨pl,op,ic,nu,pa,pn,pc⟩ r st lo=none:=by rw[h6.out,if_pos (Or.inl hlen)]
  have HN:=hid hN;clear hN h6;go_wp2_with fail;refine ly Tryz.results174 rfl rfl rfl r5.out.res (fun w9 h9 h9b=> ?_);exact⟨r5.out.but.next h9b (fun k hk h=>by omega),Or.inl ⟨HN.out,rfl⟩⟩
 ·obtain⟨RR,s2⟩: ∃RR,st.length-T.length=RR:=⟨_,rfl⟩;rw[s2]at h6;have x8:(st.length:Int)-(T.length:Int)=(RR:Int):=by omega
  have D6:RR+T.length≤st.length:=by omega
  have v7:=hid s2;have D0: ¬(RR:Int)<0:=by omega
  clear s2;go_wp2_with fail
  go_loopg [13] T.length (fun mm is wr=> ∃k:Nat,is= .int .i64 k∧k≤T.length∧k+mm≤T.length∧T.length≤k+mm∧But (fun _=>False) w3 wr∧Hid (∀i,i<k→bW cs (st.getD (RR+i) 0) (T.getD i 0)=true))
  case atStart=>exact⟨0,rfl,by omega,by omega,by omega,But.refl _ _,fun i hi=>absurd hi (by omega)⟩
  case round=>
   obtain⟨k,rfl,D7,C1,D8,i6,HA⟩:=hrel;clear C1;have n5:=r5.out.next i6 (fun _ _ h=>h);have k9:=C6.but i6 (fun _ _ h=>h);have j2:=C3.but i6 (fun _ _ h=>h);have r8:=w8.but i6 (fun _ _ h=>h);have p8:=(i6.block w1.heap.size s9 (fun h=>h)).trans y7.out;have D9:=i6.size;have e7:=ae p8;clear b0 b1 b2 i0 i1 i2 i3 i4 r0 r1 r2 f0 f1 f2;obtain⟨b0,b1,b2⟩:=fm p8;obtain⟨i0,i1,i2,i3,i4⟩:=bn n5.item;obtain⟨r0,r1,r2⟩:=fm n5.res;obtain⟨f0,f1,f2⟩:=i8 n5.res;have c6:=hid n5;have p1:=hid p8;clear n5 p8
   by_cases hlt:k<T.length
   ·have C2:(k:Int)<(T.length:Int):=by omega
    have z1:RR+k<st.length:=by omega
    obtain⟨gs,q3,j1,_,n9⟩:=aI k9 (by omega);obtain⟨ga,z5,s4,_,x3⟩:=aI r8 (by omega);have q1:=n9 _ _ (cZ z1);have q2:=x3 _ _ (cZ hlt);have D1:((RR+k:Nat):Int)<(st.length:Int):=by omega
    have j0:gs=gq:=by have:=Option.some.inj q3;injection this with h;exact h.symm
    subst j0 z5;have g5:=hid (fun(h:bW cs (st.getD (RR+k) 0) (T.getD k 0)=true)=>(fun i (hi:i<k+1)=>if hik:i=k then(by rw[hik];exact h)else HA.out i (by omega): ∀i,i<k+1→bW cs (st.getD (RR+i) 0) (T.getD i 0)=true))
    have g4:=hid (fun(h:bW cs (st.getD (RR+k) 0) (T.getD k 0)=false)=>(show gO cs st T=false from by
     unfold gO;rw[List.all_eq_false];exact⟨k,List.mem_range.2 hlt,by rw[v7.out,h];simp⟩))
    clear n9 x3 HA;revert q1 q2 g5 g4;generalize st.getD (RR+k) 0=y;generalize T.getD k 0=z;intro q1 q2 g5 g4;go_wp2_with fail;have g7:But (fun _=>False) wr wr.drew:=But.drew _ _;have v8:=hid (nk b cs y z wr.drew hn ((hT.but c6.out.but).but g7));have D2:(RR:Int)+(k:Int)<(st.length:Int):=by omega
    have D3:(0:Int)≤(RR:Int)+(k:Int):=by omega
    have D4:((RR:Int)+(k:Int)).toNat=RR+k:=by omega
    have D5:IntKind.i64.wrap ((RR:Int)+(k:Int))=(RR:Int)+(k:Int):=dF _ (by omega) (by omega);refine aD (But (fun _=>False) wr) 14 (by kernel_rfl) ?_
    iterate 12 (refine aJ (v:=?_) rfl (by kernel_rfl) (fun _ _ _ h=>h) rfl g7 ?_ ?_;rotate_left;(focus (intro wS h;have q0:=(h.kc b1 e7);have q1:=(h.kc q1 j1);have q2:=(h.kc q2 s4);clear h;go_simp;try rfl));dsimp only[Act.put];try simp only[aK])
    refine ag rfl (by kernel_rfl) ?_;intro KS hKS;go_simp;refine v8.out.mono ?_;rintro en wx ⟨rfl,y4⟩;rw[y4];clear y4 wx v8;refine hKS.out _ _ (fun _=>g7) ?_;clear hKS KS;refine ag rfl (by kernel_rfl) ?_;intro KS hKS;go_simp;refine hKS.out _ _ (fun _=>g7) ?_;clear hKS KS;refine aH rfl (by kernel_rfl) ?_;have k0:=c6.out.next g7 (fun _ _ h=>h);have s0:=i6.trans g7;clear b0 b1 b2 i0 i1 i2 i3 i4 r0 r1 r2 f0 f1 f2 q1 q2;revert k0 s0;generalize wr.drew=wd;intro k0 s0;obtain⟨r0,r1,r2⟩:=fm k0.res;obtain⟨f0,f1,f2⟩:=i8 k0.res;revert g5 g4
    cases bW cs y z with
    |true=>
     intro g5 g4;have q8:=hid (g5.out rfl);clear g5 g4;go_wp2_with fail
     go_roundg (T.length-(k+1))
     case measure=>omega
     case rel=>exact⟨k+1,by simp,by omega,by omega,by omega,s0,q8.out⟩
    |false=>
     intro g5 g4;have hN:qA cs ms ⟨pl,op,ic,nu,pa,pn,pc⟩ r st lo=none:=by rw[h6.out,if_pos (Or.inr (g4.out rfl))]
     have HN:=hid hN;have w0:=hid k0;clear hN h6 g5 g4 k0;go_wp2_with fail;refine ly Tryz.results174 rfl rfl rfl w0.out.res (fun w9 h9 h9b=> ?_);exact⟨w0.out.but.next h9b (fun k hk h=>by omega),Or.inl ⟨HN.out,rfl⟩⟩
   ·have C2: ¬(k:Int)<(T.length:Int):=by omega
    have n6:gO cs st T=true:=by
     unfold gO;rw[List.all_eq_true];intro i hi;rw[v7.out];exact HA.out i (by have:=List.mem_range.1 hi;omega)
    have f5:=h6.out;rw[if_neg (by rw[n6];simp;omega)]at f5;have j4:=hid f5;clear n6 f5 h6 HA
    by_cases h115:op.toNat=115
    ·have m4:((op.toNat:Int)==115)=true:=by rw[beq_iff_eq];omega
     have x1:=m1.out h115
     by_cases hnu:nu<lo.length
     ·have C4:(nu:Int)<(lo.length:Int):=by omega
      have a0:=j4.out;rw[if_neg (fun h=>h.2 hnu)]at a0;simp only[if_pos h115]at a0;have f3:=hid a0;have h5:=hid h115;clear a0 j4 h115;go_wp2_with fail;obtain⟨gl,z9,A0,s6,hcl⟩:=aI j2 (by omega);subst z9;obtain⟨cur,o0⟩:=BtB.row j2;have fz:=frozen_of_row wr gl nu _ _ o0;have ql:=hcl _ _ (cZ hnu);obtain⟨gs,q3,j1,_,n9⟩:=aI k9 (by omega);have j0:gs=gq:=by have:=Option.some.inj q3;injection this with h;exact h.symm
      subst j0;have z2:RR<st.length:=by omega
      have z3:(RR:Int)<(st.length:Int):=by omega
      have q1:=n9 _ _ (cZ z2);have j3:aF cs ms op ic nu (lo.set nu (st.getD RR 0))=0:=by simp[aF,h5.out]
      have a0:=f3.out;rw[j3]at a0;simp only[show¬(op.toNat=108∧(0:UInt8).toNat=45)from fun h=>by have:=h5.out;omega,if_false,show(0:UInt8).toNat=0 from rfl,if_true,List.append_nil]at a0;have f6:=hid a0;have p2:=hid j3;clear a0 f3 j3 hcl n9 o0 r8 q3;revert q1 f6 p2;generalize st.getD RR 0=y;intro q1 f6 p2;have g7:But (fun _=>False) wr wr.drew:=But.drew _ _;have x7:=e8 gl rfl;have B2:=i7 gs rfl;have x4:G2≤gl:=s6;have x5:gl≠w.heap.size+1:=by omega
      refine aD (But (fun _=>False) wr) 9 (by kernel_rfl) ?_
      iterate 9 (refine aJ (v:=?_) rfl (by kernel_rfl) (fun _ _ _ h=>h) rfl g7 ?_ ?_;rotate_left;(focus (intro wS h;have Q0:=(h.kc b1 e7);have Q1:=(h.kc b2 e7);have Q2:=(h.kc i3 (ae c6.out.item));have Q3:=(h.kc q1 j1);clear h;go_simp;try rfl));dsimp only[Act.put];try simp only[aK])
      refine ag rfl (by kernel_rfl) ?_;intro KS hKS;go_simp;refine hKS.out _ _ nofun ?_;clear hKS KS;refine ag rfl (by kernel_rfl) ?_;intro KS hKS;go_simp;refine hKS.out _ _ nofun ?_;clear hKS KS;refine aH rfl (by kernel_rfl) ?_;have s1:But (· =gl) wr (wr.setCell ⟨gl,nu,none⟩ (.int .u8 y.toNat)).drew:=(But.setB _ _ _ _).trans (But.drew _ _);have i9:=c6.out.next s1 (fun k hk h=>by omega);have v4:=k9.but s1 (fun g hg h=>by have h2:gs=g:=Option.some.inj hg;omega);have q5:=(j2.put (k:=nu) y).but (But.drew (fun _=>False) _) (fun _ _ h=>h);have b5:=(s1.block w1.heap.size e7 (by omega)).trans p1.out;clear b0 b1 b2 i0 i1 i2 i3 i4 r0 r1 r2 f0 f1 f2 k9 j2 c6 p1 fz ql q1
      revert i9 v4 q5 b5;generalize (wr.setCell ⟨gl,nu,none⟩ (.int .u8 y.toNat)).drew=wq;intro i9 v4 q5 b5;obtain⟨b0,b1,b2⟩:=fm b5;obtain⟨i0,i1,i2,i3,i4⟩:=bn i9.item;have g0:(lo.set nu y).length=lo.length:=by simp
      have t5:=ae b5;have v1:=eY (ap:=pa) (np:=pn) (cp:=pc) b cs ms pl nu op ic (some ⟨gl,0,none⟩) c2 (lo.set nu y) wq hn hm (hT.but i9.but) (hM.but i9.but) (by rw[g0];exact World.ownsRow.mono q5 (Nat.zero_le _));rw[g0,p2.out]at v1;have y9:=hid v1;have l6:=hid g0;have w4:=hid i9;have v6:=hid b5;clear v1 g0 i9 b5 p2;go_wp2_with fail;refine y9.out.mono ?_;rintro en w5 ⟨rfl,f7⟩;have e4:=w4.out.next f7 (fun _ _ h=>h);have b3:=v4.but f7 (fun _ _ h=>h);have g3:=q5.but f7 (fun _ _ h=>h);have e6:=(f7.block w1.heap.size t5 (fun h=>h)).trans v6.out;have t3:=ae e6;clear b0 b1 b2 i0 i1 i2 i3 i4;obtain⟨b0,b1,b2⟩:=fm e6
      obtain⟨e0,e1,e2⟩:=i8 e6;obtain⟨i0,i1,i2,i3,i4⟩:=bn e4.item;obtain⟨r0,r1,r2⟩:=fm e4.res;obtain⟨f0,f1,f2⟩:=i8 e4.res;have j5:=hid e4;have l3:=hid e6;have m3:((op.toNat:Int)==108)=false:=by rw[beq_eq_false_iff_ne];have:=h5.out;omega
      clear e4 e6 w4 v6 m4;have n8:=b3.cap;have x2:(RR:Int)≤(c1:Int):=by omega
      have a7:But (· =w1.heap.size) w5 (w5.setCell ⟨w1.heap.size,1,none⟩ (.slice (some ⟨gs,0,none⟩) RR c1)):=But.setB w5 w1.heap.size 1 (.slice (some ⟨gs,0,none⟩) RR c1);have h3:=j5.out.next a7 (fun k hk h=>by omega);have e3:(st.take RR).length=RR:=by simp;omega
      have g6:=b3.pre (n:=RR) (by omega);have d6:=g6.but a7 (fun g hg h=>by have:=e9 g hg;omega);have h4:=g3.but a7 (fun g hg h=>by have h2:gl=g:=Option.some.inj hg;omega);have b4:=hid e3;rw[e3]at d6;have b6:=hid d6;have b9:=hid h4;have f4:=hid h3;clear a7 h3 g6 d6 h4 e3;go_wp2_with fail;refine ly Tryz.results174 rfl rfl rfl f4.out.res (fun w9 h9 h9b=> ?_);refine⟨f4.out.but.next h9b (fun k hk h=>by omega),Or.inr ⟨st.take RR,lo.set nu y,some ⟨gs,0,none⟩,c1,some ⟨gl,0,none⟩,c2,by rw[f6.out,if_neg (fun h=>absurd h.2 (by decide))],by rw[b4.out,l6.out],?_,?_⟩⟩
      ·rw[b4.out];exact BtB.but (World.ownsRow.mono b6.out (by omega)) h9b (fun g hg h=>by have:=aA b6.out g hg;omega)
      ·rw[l6.out];exact BtB.but (World.ownsRow.mono b9.out (by omega)) h9b (fun g hg h=>by have h2:gl=g:=Option.some.inj hg;omega)
     ·have C4: ¬(nu:Int)<(lo.length:Int):=by omega
      have hN:qA cs ms ⟨pl,op,ic,nu,pa,pn,pc⟩ r st lo=none:=by rw[j4.out,if_pos ⟨h115,hnu⟩]
      have HN:=hid hN;clear hN j4 h115;go_wp2_with fail;refine ly Tryz.results174 rfl rfl rfl c6.out.res (fun w9 h9 h9b=> ?_);exact⟨c6.out.but.next h9b (fun k hk h=>by omega),Or.inl ⟨HN.out,rfl⟩⟩
    ·have m4:=tf op.toNat 115 (by omega);have a0:=j4.out;rw[if_neg (fun h=>h115 h.1)]at a0;simp only[if_neg h115]at a0;have f3:=hid a0;clear a0 j4;go_wp2_with fail;refine(eY (ap:=pa) (np:=pn) (cp:=pc) b cs ms pl nu op ic a2 c2 lo wr hn hm (hT.but c6.out.but) (hM.but c6.out.but) (World.ownsRow.mono j2 (Nat.zero_le _))).mono ?_;rintro en w5 ⟨rfl,f7⟩;obtain⟨L,hL⟩: ∃L,aF cs ms op ic nu lo=L:=⟨_,rfl⟩;rw[hL];rw[hL]at f3;clear hL;have e4:=c6.out.next f7 (fun _ _ h=>h);have b3:=k9.but f7 (fun _ _ h=>h);have g3:=j2.but f7 (fun _ _ h=>h);have e6:=(f7.block w1.heap.size e7 (fun h=>h)).trans p1.out;have t3:=ae e6
     clear b0 b1 b2 i0 i1 i2 i3 i4 r0 r1 r2 f0 f1 f2 k9 j2 r8;obtain⟨b0,b1,b2⟩:=fm e6;obtain⟨e0,e1,e2⟩:=i8 e6;obtain⟨i0,i1,i2,i3,i4⟩:=bn e4.item;obtain⟨r0,r1,r2⟩:=fm e4.res;obtain⟨f0,f1,f2⟩:=i8 e4.res;have j5:=hid e4;have l3:=hid e6;clear e4 e6 c6 p1
     by_cases h108:op.toNat=108
     ·have m3:((op.toNat:Int)==108)=true:=by rw[beq_iff_eq];omega
      by_cases h45:L.toNat=45
      ·have eL:((L.toNat:Int)==45)=true:=by rw[beq_iff_eq];omega
       have hN:qA cs ms ⟨pl,op,ic,nu,pa,pn,pc⟩ r st lo=none:=by rw[f3.out,if_pos ⟨h108,h45⟩]
       have HN:=hid hN;clear hN f3 h108 h45 h115;go_wp2_with fail;refine ly Tryz.results174 rfl rfl rfl j5.out.res (fun w9 h9 h9b=> ?_);exact⟨j5.out.but.next h9b (fun k hk h=>by omega),Or.inl ⟨HN.out,rfl⟩⟩
      ·have eL:=tf L.toNat 45 (by omega);have i5:=f3.out;rw[if_neg (fun h=>h45 h.2)]at i5;have f6:=hid i5;clear i5 h108 h45 h115;have n8:=b3.cap;have x2:(RR:Int)≤(c1:Int):=by omega
       have a7:But (· =w1.heap.size) w5 (w5.setCell ⟨w1.heap.size,1,none⟩ (.slice (some ⟨gq,0,none⟩) RR c1)):=But.setB w5 w1.heap.size 1 (.slice (some ⟨gq,0,none⟩) RR c1);have h3:=j5.out.next a7 (fun k hk h=>by omega);have o1:=heap_setCell_same w5 w1.heap.size 1 _ _ (.slice (some ⟨gq,0,none⟩) RR c1) l3.out;have e3:(st.take RR).length=RR:=by simp;omega
       have g6:=b3.pre (n:=RR) (by omega);have d6:=g6.but a7 (fun g hg h=>by have:=e9 g hg;omega);have h4:=g3.but a7 (fun g hg h=>by have:=e8 g hg;omega);have p0:(w5.setCell ⟨w1.heap.size,1,none⟩ (.slice (some ⟨gq,0,none⟩) RR c1)).heap.size=w5.heap.size:=bV _ _ _;have b4:=hid e3;rw[e3]at d6;have b6:=hid d6;have b9:=hid h4;have f4:=hid h3;have l4:=hid o1;have y6:=hid a7;have r6:=hid p0;have C9:=ae l3.out;clear a7 h3 o1 g6 d6 h4 e3 p0 f3
       by_cases hL0:L.toNat=0
       ·have h7:((L.toNat:Int)==0)=true:=by rw[beq_iff_eq];omega
        have h8:((L.toNat:Int)!=0)=false:=by simp[bne,h7]
        have a9:(L.toNat:Int)=0:=by omega
        have q7:=hid a9;clear a9;have a8:=hid hL0;clear hL0;go_wp2_with fail;refine ly Tryz.results174 rfl rfl rfl f4.out.res (fun w9 h9 h9b=> ?_);refine⟨f4.out.but.next h9b (fun k hk h=>by omega),Or.inr ⟨st.take RR,lo,some ⟨gq,0,none⟩,c1,a2,c2,by rw[f6.out,if_pos a8.out,List.append_nil],by rw[b4.out],?_,?_⟩⟩
        ·rw[b4.out];exact BtB.but (World.ownsRow.mono b6.out (by omega)) h9b (fun g hg h=>by have:=aA b6.out g hg;omega)
        ·exact BtB.but (World.ownsRow.mono b9.out (by omega)) h9b (fun g hg h=>by have:=aA b9.out g hg;omega)
       ·have h7:=tf L.toNat 0 (by omega);have h8:((L.toNat:Int)!=0)=true:=by simp[bne,h7]
        have a9: ¬(L.toNat:Int)=0:=by omega
        have a8:=hid hL0;clear hL0
        have n0:(w5.setCell ⟨w1.heap.size,1,none⟩ (.slice (some ⟨gq,0,none⟩) RR c1)).ownsRow (w.heap.size+1+1+1+1) 5 1 (.slice (some ⟨gq,0,none⟩) RR c1) RR (aM (st.take RR)):=by
         have:=b6.out;unfold BtB at this;rw[b4.out]at this;exact this
        have r3:=hid n0;clear n0;go_wp2_with (at_builtin;refine wpList_append_lies _ rfl _ _ _ rfl (w.heap.size+1+1+1+1) 5 t0 _ 1 1 (by kernel_rfl) y0 y1 y2 y3 rfl (by omega) _ RR (aM (st.take RR)) rfl (r3.out.alloc _) ⟨w5.heap.size,0,none⟩ 1 1 [.int .u8 L.toNat] rfl rfl (World.news_of_block (cs:=#[.int .u8 L.toNat]) (t:=5) (fr:=(0,0)) (aq r6.out _)) (by simp[Value.oneCell']) (by omega) (by unfold maxLen;omega) (by omega) (by simp;omega) (w5.heap.size+1) (by simp) ?_);intro gg a4 w7 a5 a6 n7 v0;have g1:But (fun k'=>(Value.slice (some ⟨gq,0,none⟩) RR c1).ownBlock=some k') (w5.setCell ⟨w1.heap.size,1,none⟩ (.slice (some ⟨gq,0,none⟩) RR c1)) w7:=(But.alloc _ _ _).trans (ba a6)
        have hF: ∀k,k≠gq→ ¬(Value.slice (some ⟨gq,0,none⟩) RR c1).ownBlock=some k:=fun k hk h=>hk (by injection h with h;exact h.symm)
        have o3:=e9 gq rfl;have o2:=aA b6.out gq rfl;have e5:=f4.out.next g1 (fun k hk=>hF k (by omega));have g2:=(g1.block w1.heap.size (ae l4.out) (hF _ (by omega))).trans l4.out;have o4:=b9.out.but g1 (fun g hg=>hF g (fun h=>by have h1:=aA b9.out g hg;have h2:=i7 gq rfl;omega));have z8:=aA a5 gg rfl
        have s5:gg≠w1.heap.size:=fun h=>by
         rcases n7 with h'|h'
         ·have h2:gq=gg:=Option.some.inj h';omega
         ·omega
        clear b0 b1 b2 e0 e1 e2 r0 r1 r2 f0 f1 f2;obtain⟨b0,b1,b2⟩:=fm g2;obtain⟨e0,e1,e2⟩:=i8 g2;obtain⟨r0,r1,r2⟩:=fm e5.res;obtain⟨f0,f1,f2⟩:=i8 e5.res;have f8:But (· =w1.heap.size) w7 (w7.setCell ⟨w1.heap.size,1,none⟩ (.slice (some ⟨gg,0,none⟩) (RR+1) a4)):=But.setB w7 w1.heap.size 1 (.slice (some ⟨gg,0,none⟩) (RR+1) a4);have n4:=e5.next f8 (fun k hk h=>by omega);have o5:=o4.but f8 (fun g hg h=>by have:=e8 g hg;omega)
        have n1:BtB (w7.setCell ⟨w1.heap.size,1,none⟩ (.slice (some ⟨gg,0,none⟩) (RR+1) a4)) (w.heap.size+1+1+1+1) (.slice (some ⟨gg,0,none⟩) (st.take RR++ [L]).length a4) (st.take RR++ [L]):=by
         unfold BtB;rw[List.length_append,b4.out,aM,List.map_append];exact ah a5 f8 (fun g hg h=>by simp[Value.ownBlock]at hg;omega)
        have m2:=hid n4;have l5:=hid o5;have m0:=hid n1;have t6:=e5.gt;have t4:=ae g2;clear e5 g2 o4 g1 a6 a5 n7 f8 n4 o5 n1 hF;go_wp2_with fail;refine ly Tryz.results174 rfl rfl rfl m2.out.res (fun w9 h9 h9b=> ?_);have s3:(st.take RR++ [L]).length=RR+1:=by rw[List.length_append,b4.out];rfl
        refine⟨m2.out.but.next h9b (fun k hk h=>by omega),Or.inr ⟨st.take RR++ [L],lo,some ⟨gg,0,none⟩,a4,a2,c2,by rw[f6.out,if_neg a8.out],by rw[s3],?_,?_⟩⟩
        ·exact BtB.but (World.ownsRow.mono m0.out (by omega)) h9b (fun g hg h=>by have:=aA m0.out g hg;omega)
        ·exact BtB.but (World.ownsRow.mono l5.out (by omega)) h9b (fun g hg h=>by have:=aA l5.out g hg;omega)
     ·have m3:=tf op.toNat 108 (by omega);have i5:=f3.out;rw[if_neg (fun h=>h108 h.1)]at i5;have f6:=hid i5;clear i5 h108 h115;have n8:=b3.cap;have x2:(RR:Int)≤(c1:Int):=by omega
      have a7:But (· =w1.heap.size) w5 (w5.setCell ⟨w1.heap.size,1,none⟩ (.slice (some ⟨gq,0,none⟩) RR c1)):=But.setB w5 w1.heap.size 1 (.slice (some ⟨gq,0,none⟩) RR c1);have h3:=j5.out.next a7 (fun k hk h=>by omega);have o1:=heap_setCell_same w5 w1.heap.size 1 _ _ (.slice (some ⟨gq,0,none⟩) RR c1) l3.out;have e3:(st.take RR).length=RR:=by simp;omega
      have g6:=b3.pre (n:=RR) (by omega);have d6:=g6.but a7 (fun g hg h=>by have:=e9 g hg;omega);have h4:=g3.but a7 (fun g hg h=>by have:=e8 g hg;omega);have p0:(w5.setCell ⟨w1.heap.size,1,none⟩ (.slice (some ⟨gq,0,none⟩) RR c1)).heap.size=w5.heap.size:=bV _ _ _;have b4:=hid e3;rw[e3]at d6;have b6:=hid d6;have b9:=hid h4;have f4:=hid h3;have l4:=hid o1;have y6:=hid a7;have r6:=hid p0;have C9:=ae l3.out;clear a7 h3 o1 g6 d6 h4 e3 p0 f3
      by_cases hL0:L.toNat=0
      ·have h7:((L.toNat:Int)==0)=true:=by rw[beq_iff_eq];omega
       have h8:((L.toNat:Int)!=0)=false:=by simp[bne,h7]
       have a9:(L.toNat:Int)=0:=by omega
       have q7:=hid a9;clear a9;have a8:=hid hL0;clear hL0;go_wp2_with fail;refine ly Tryz.results174 rfl rfl rfl f4.out.res (fun w9 h9 h9b=> ?_);refine⟨f4.out.but.next h9b (fun k hk h=>by omega),Or.inr ⟨st.take RR,lo,some ⟨gq,0,none⟩,c1,a2,c2,by rw[f6.out,if_pos a8.out,List.append_nil],by rw[b4.out],?_,?_⟩⟩
       ·rw[b4.out];exact BtB.but (World.ownsRow.mono b6.out (by omega)) h9b (fun g hg h=>by have:=aA b6.out g hg;omega)
       ·exact BtB.but (World.ownsRow.mono b9.out (by omega)) h9b (fun g hg h=>by have:=aA b9.out g hg;omega)
      ·have h7:=tf L.toNat 0 (by omega);have h8:((L.toNat:Int)!=0)=true:=by simp[bne,h7]
       have a9: ¬(L.toNat:Int)=0:=by omega
       have a8:=hid hL0;clear hL0
       have n0:(w5.setCell ⟨w1.heap.size,1,none⟩ (.slice (some ⟨gq,0,none⟩) RR c1)).ownsRow (w.heap.size+1+1+1+1) 5 1 (.slice (some ⟨gq,0,none⟩) RR c1) RR (aM (st.take RR)):=by
        have:=b6.out;unfold BtB at this;rw[b4.out]at this;exact this
       have r3:=hid n0;clear n0;go_wp2_with (at_builtin;refine wpList_append_lies _ rfl _ _ _ rfl (w.heap.size+1+1+1+1) 5 t0 _ 1 1 (by kernel_rfl) y0 y1 y2 y3 rfl (by omega) _ RR (aM (st.take RR)) rfl (r3.out.alloc _) ⟨w5.heap.size,0,none⟩ 1 1 [.int .u8 L.toNat] rfl rfl (World.news_of_block (cs:=#[.int .u8 L.toNat]) (t:=5) (fr:=(0,0)) (aq r6.out _)) (by simp[Value.oneCell']) (by omega) (by unfold maxLen;omega) (by omega) (by simp;omega) (w5.heap.size+1) (by simp) ?_);intro gg a4 w7 a5 a6 n7 v0;have g1:But (fun k'=>(Value.slice (some ⟨gq,0,none⟩) RR c1).ownBlock=some k') (w5.setCell ⟨w1.heap.size,1,none⟩ (.slice (some ⟨gq,0,none⟩) RR c1)) w7:=(But.alloc _ _ _).trans (ba a6)
       have hF: ∀k,k≠gq→ ¬(Value.slice (some ⟨gq,0,none⟩) RR c1).ownBlock=some k:=fun k hk h=>hk (by injection h with h;exact h.symm)
       have o3:=e9 gq rfl;have o2:=aA b6.out gq rfl;have e5:=f4.out.next g1 (fun k hk=>hF k (by omega));have g2:=(g1.block w1.heap.size (ae l4.out) (hF _ (by omega))).trans l4.out;have o4:=b9.out.but g1 (fun g hg=>hF g (fun h=>by have h1:=aA b9.out g hg;have h2:=i7 gq rfl;omega));have z8:=aA a5 gg rfl
       have s5:gg≠w1.heap.size:=fun h=>by
        rcases n7 with h'|h'
        ·have h2:gq=gg:=Option.some.inj h';omega
        ·omega
       clear b0 b1 b2 e0 e1 e2 r0 r1 r2 f0 f1 f2;obtain⟨b0,b1,b2⟩:=fm g2;obtain⟨e0,e1,e2⟩:=i8 g2;obtain⟨r0,r1,r2⟩:=fm e5.res;obtain⟨f0,f1,f2⟩:=i8 e5.res;have f8:But (· =w1.heap.size) w7 (w7.setCell ⟨w1.heap.size,1,none⟩ (.slice (some ⟨gg,0,none⟩) (RR+1) a4)):=But.setB w7 w1.heap.size 1 (.slice (some ⟨gg,0,none⟩) (RR+1) a4);have n4:=e5.next f8 (fun k hk h=>by omega);have o5:=o4.but f8 (fun g hg h=>by have:=e8 g hg;omega)
       have n1:BtB (w7.setCell ⟨w1.heap.size,1,none⟩ (.slice (some ⟨gg,0,none⟩) (RR+1) a4)) (w.heap.size+1+1+1+1) (.slice (some ⟨gg,0,none⟩) (st.take RR++ [L]).length a4) (st.take RR++ [L]):=by
        unfold BtB;rw[List.length_append,b4.out,aM,List.map_append];exact ah a5 f8 (fun g hg h=>by simp[Value.ownBlock]at hg;omega)
       have m2:=hid n4;have l5:=hid o5;have m0:=hid n1;have t6:=e5.gt;have t4:=ae g2;clear e5 g2 o4 g1 a6 a5 n7 f8 n4 o5 n1 hF;go_wp2_with fail;refine ly Tryz.results174 rfl rfl rfl m2.out.res (fun w9 h9 h9b=> ?_);have s3:(st.take RR++ [L]).length=RR+1:=by rw[List.length_append,b4.out];rfl
       refine⟨m2.out.but.next h9b (fun k hk h=>by omega),Or.inr ⟨st.take RR++ [L],lo,some ⟨gg,0,none⟩,a4,a2,c2,by rw[f6.out,if_neg a8.out],by rw[s3],?_,?_⟩⟩
       ·exact BtB.but (World.ownsRow.mono m0.out (by omega)) h9b (fun g hg h=>by have:=aA m0.out g hg;omega)
       ·exact BtB.but (World.ownsRow.mono l5.out (by omega)) h9b (fun g hg h=>by have:=aA l5.out g hg;omega)
end
end Go.Proofs.YtpfkkmacakjmbaaGreatDoor
