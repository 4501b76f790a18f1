import Derived.Test.YtpfkkmacakjmbaaGreatDoorP11
set_option maxRecDepth 100000
set_option maxHeartbeats 6400000
set_option linter.unusedSimpArgs false
set_option linter.unusedVariables false
namespace Go.Proofs.YtpfkkmacakjmbaaGreatDoor
section
open Go Go.RowKit Sp
theorem fx {w:World} {base:Nat} {v:Value} {l:List UInt8} (h:BtB w base v l):(convert 112 9 v).run Tryz.prog w= .ok (.string ⟨l.toArray⟩) w:=by
 obtain⟨ao,cap,rfl⟩:=aw h
 cases ao with
 |none=>
  have hm:l.length=0:=by
   rcases Nat.eq_zero_or_pos l.length with h'|h'
   ·exact h'
   ·obtain⟨g,hg,_⟩:=aI h h'
    cases hg
  have a1:l=[]:=List.length_eq_zero_iff.1 hm;subst a1;have a2:Tryz.prog.underlying 112=some (.slice 5):=by kernel_rfl
  have a3:Tryz.prog.underlying 9=some .string:=by kernel_rfl
  have a4:Tryz.prog.underlying 5=some (.int .u8):=by kernel_rfl
  have h9:=run_convert_bytes_string (P:=Tryz.prog) w 112 9 5 none 0 cap a2 a4 a3;refine h9.trans ?_;simp[Conv.bytesToString]
  rfl
 |some ad=>
  refine(?_ :(convert 112 9 (.slice (some ad) l.length cap)).run Tryz.prog w=_);refine run_convert_bytes_back w 112 9 5 ad cap l (by kernel_rfl) (by kernel_rfl) (by kernel_rfl) ?_;intro j hj;obtain⟨g,hg,a5,a6,hc⟩:=aI h (by omega);have a0:=Option.some.inj hg;rw[a0];have h3:=hc j _ (cZ hj);have e:(⟨g,0,none⟩:Addr).add j=⟨g,j,none⟩:=by simp[Addr.add];exact fun h=>h.symm
  rw[e,h3];simp[List.getD,hj]
end
section
open Go Go.RowKit Sp
attribute [local go_sem ↓] Go.wp_at_zero Go.wp_at_succ
def xsV (kn:Bool) (vs vl:Value):Value:= .agg #[.bool kn,vs,vl]
theorem mD (bx:Nat) (kn:Bool) (aa al:Option Addr) (cs cl:Nat) (st lo:List UInt8) (w:World) (hs:BtB w bx (.slice aa st.length cs) st) (hl:BtB w bx (.slice al lo.length cl) lo) (h1:st.length≤1000) (h2:lo.length≤1000):
  Calls Tryz.prog 171 #[xsV kn (.slice aa st.length cs) (.slice al lo.length cl)] w fun en w'=>But (fun _=>False) w w'∧ ∃a1 c1 a2 c2 B2,en= .returned (xsV kn (.slice a1 st.length c1) (.slice a2 lo.length c2))∧BtB w' w.heap.size (.slice a1 st.length c1) st∧BtB w' B2 (.slice a2 lo.length c2) lo∧w.heap.size≤B2∧(∀g,(Value.slice a1 st.length c1).ownBlock=some g→g<B2)∧(Value.slice a1 st.length c1).ownBlock≠none:=by
 unfold xsV;have e1:But (fun _=>False) w ((w.alloc (.cells #[.bool kn,.slice aa st.length cs,.slice al lo.length cl] 117)).alloc (.cells #[.bool false,.slice none 0 0,.slice none 0 0] 117)):=(But.alloc _ _ _).trans (But.alloc _ _ _);have f6:((w.alloc (.cells #[.bool kn,.slice aa st.length cs,.slice al lo.length cl] 117)).alloc (.cells #[.bool false,.slice none 0 0,.slice none 0 0] 117)).heap.size=w.heap.size+1+1:=by simp
 have e9:((w.alloc (.cells #[.bool kn,.slice aa st.length cs,.slice al lo.length cl] 117)).alloc (.cells #[.bool false,.slice none 0 0,.slice none 0 0] 117)).heap[w.heap.size]?=some (.cells #[.bool kn,.slice aa st.length cs,.slice al lo.length cl] 117):=by
  rw[(But.alloc (fun _=>False) (w.alloc (.cells #[.bool kn,.slice aa st.length cs,.slice al lo.length cl] 117)) (.cells #[.bool false,.slice none 0 0,.slice none 0 0] 117)).block w.heap.size (ae (heap_alloc_new w _)) (fun h=>h)];exact heap_alloc_new w _
 have e7:((w.alloc (.cells #[.bool kn,.slice aa st.length cs,.slice al lo.length cl] 117)).alloc (.cells #[.bool false,.slice none 0 0,.slice none 0 0] 117)).heap[w.heap.size+1]?=some (.cells #[.bool false,.slice none 0 0,.slice none 0 0] 117):=aq (by simp) _;have hE:=BtB.empty ((w.alloc (.cells #[.bool kn,.slice aa st.length cs,.slice al lo.length cl] 117)).alloc (.cells #[.bool false,.slice none 0 0,.slice none 0 0] 117));have b1:But (fun _=>False) ((w.alloc (.cells #[.bool kn,.slice aa st.length cs,.slice al lo.length cl] 117)).alloc (.cells #[.bool false,.slice none 0 0,.slice none 0 0] 117)) (((w.alloc (.cells #[.bool kn,.slice aa st.length cs,.slice al lo.length cl] 117)).alloc (.cells #[.bool false,.slice none 0 0,.slice none 0 0] 117)).alloc (.cells #[] 5)):=But.alloc _ _ _
 rw[f6]at hE;have f5:=(hs.but e1 (fun _ _ h=>h)).but b1 (fun _ _ h=>h);have f2:=(hl.but e1 (fun _ _ h=>h)).but b1 (fun _ _ h=>h);have f7:((w.alloc (.cells #[.bool kn,.slice aa st.length cs,.slice al lo.length cl] 117)).alloc (.cells #[.bool false,.slice none 0 0,.slice none 0 0] 117)).alloc (.cells #[] 5) |>.heap.size |> (w.heap.size+1+1≤ ·):=by simp
 have HN:Hid ([]++st=st):=hid (by simp);have e2:=hid (b1.kp e9);have e3:=hid ((b1.block (w.heap.size+1) (ae e7) (fun h=>h)).trans e7);have g5:=e1.trans b1;clear e9 e7 e1 b1 f6
 go_in
 go_wp2_with (at_builtin;refine bk rfl _ _ rfl (w.heap.size+1+1) bx _ _ [] st st HN rfl rfl hE f5 (by omega) f7 ?_);intro a1 c1 w3 h3 d6 h0;have b9:(Value.slice (some ⟨w.heap.size+1+1,0,none⟩) 0 0).ownBlock=some (w.heap.size+1+1):=rfl
 have f4:(Value.slice a1 st.length c1).ownBlock≠none:=fun h=>by
  rcases h0 with h'|h'<;>(rw[h]at h';cases h')
 have f9:=hid f4;clear f4;have hF: ∀k,k<w.heap.size+1+1→ ¬(Value.slice (some ⟨w.heap.size+1+1,0,none⟩) 0 0).ownBlock=some k:=fun k hk h=>by rw[b9]at h;injection h with h;omega
 have a8:=(d6.block w.heap.size (ae e2.out) (hF _ (by omega))).trans e2.out;have b0:=(d6.block (w.heap.size+1) (ae e3.out) (hF _ (by omega))).trans e3.out;have f3:=f2.but d6 (fun g hg=>hF g (by have:=aX hl g hg;omega));have b4:But (fun _=>False) w w3:=g5.next d6 (fun k hk h=>hF k (by omega) h);have a4:=aX h3;have c6:=aA h3;have h9:=b4.size;have f1:=ae b0;have f0:w.heap.size<w3.heap.size:=by omega
 have g6:=BtB.empty w3;have e0:But (fun _=>False) w3 (w3.alloc (.cells #[] 5)):=But.alloc _ _ _;have g7:=f3.but e0 (fun _ _ h=>h);have h6:=h3.but e0 (fun _ _ h=>h);have h8:w3.heap.size≤(w3.alloc (.cells #[] 5)).heap.size:=e0.size;have hq:=ce2 a8;have f8:Hid ([]++lo=lo):=hid (by simp);have a5:=hid a8;have a6:=hid b0;have HF:=hid hF;clear a8 b0 hF b9 e2 e3 f5 f2 hE f7 h3 f3;go_wp2_with (at_builtin;refine bk rfl _ _ rfl w3.heap.size bx _ _ [] lo lo f8 rfl rfl g6 g7 (by omega) h8 ?_);intro a2 c2 w5 h5 e8 h4;have a3:(Value.slice (some ⟨w3.heap.size,0,none⟩) 0 0).ownBlock=some w3.heap.size:=rfl;have b5: ∀k,k<w3.heap.size→ ¬(Value.slice (some ⟨w3.heap.size,0,none⟩) 0 0).ownBlock=some k:=fun k hk h=>by rw[a3]at h;injection h with h;omega
 have a7:But (fun k=>(Value.slice (some ⟨w3.heap.size,0,none⟩) 0 0).ownBlock=some k) w3 w5:=(e0.mono (fun _ _ h=>h.elim)).trans e8;have b6:=(a7.block w.heap.size (ae a5.out) (b5 _ (by omega))).trans a5.out;have a0:=(a7.block (w.heap.size+1) (ae a6.out) (b5 _ (by omega))).trans a6.out;have h7:=h6.but e8 (fun g hg=>b5 g (a4 g hg));have e6:But (fun _=>False) w w5:=b4.next a7 (fun k hk h=>b5 k (by omega) h);have e5:=aA h5;have q0:=ce0 b6;have y0:w5.cell? ⟨w.heap.size+1,0,none⟩=some (.bool false):=by rw[cell_of_row w5 (w.heap.size+1) 0 _ _ (0,0) a0];rfl
 have y1:w5.cell? ⟨w.heap.size+1,1,none⟩=some (.slice none 0 0):=by rw[cell_of_row w5 (w.heap.size+1) 1 _ _ (0,0) a0];rfl
 have y2:w5.cell? ⟨w.heap.size+1,2,none⟩=some (.slice none 0 0):=by rw[cell_of_row w5 (w.heap.size+1) 2 _ _ (0,0) a0];rfl
 have g0:w5.frozen? ⟨w.heap.size+1,0,none⟩=false:=frozen_of_row w5 (w.heap.size+1) 0 _ _ a0;have g1:w5.frozen? ⟨w.heap.size+1,1,none⟩=false:=frozen_of_row w5 (w.heap.size+1) 1 _ _ a0;have g2:w5.frozen? ⟨w.heap.size+1,2,none⟩=false:=frozen_of_row w5 (w.heap.size+1) 2 _ _ a0;have e4:=hid a0;clear b6 a0 a5 a6 hq a3 b5;go_wp2_with fail;have g3:=heap_setCell_same w5 (w.heap.size+1) 0 _ _ (.bool kn) e4.out;have g4:=heap_setCell_same _ (w.heap.size+1) 1 _ _ (.slice a1 st.length c1) g3;have b2:=heap_setCell_same _ (w.heap.size+1) 2 _ _ (.slice a2 lo.length c2) g4;have b3:=((But.setB w5 (w.heap.size+1) 0 (.bool kn)).trans (But.setB _ (w.heap.size+1) 1 (.slice a1 st.length c1))).trans (But.setB _ (w.heap.size+1) 2 (.slice a2 lo.length c2))
 revert b2 b3;generalize (((w5.setCell ⟨w.heap.size+1,0,none⟩ (.bool kn)).setCell ⟨w.heap.size+1,1,none⟩ (.slice a1 st.length c1)).setCell ⟨w.heap.size+1,2,none⟩ (.slice a2 lo.length c2))=w6;intro b2 b3;have r0:w6.cell? ⟨w.heap.size+1,0,none⟩=some (.bool kn):=by rw[cell_of_row w6 (w.heap.size+1) 0 _ _ (0,0) b2];rfl
 have r1:w6.cell? ⟨w.heap.size+1,1,none⟩=some (.slice a1 st.length c1):=by rw[cell_of_row w6 (w.heap.size+1) 1 _ _ (0,0) b2];rfl
 have r2:w6.cell? ⟨w.heap.size+1,2,none⟩=some (.slice a2 lo.length c2):=by rw[cell_of_row w6 (w.heap.size+1) 2 _ _ (0,0) b2];rfl
 exact bodyPost_ret (v:= .agg #[.bool kn,.slice a1 st.length c1,.slice a2 lo.length c2]) (by simp[results,Tryz.results171,go_sem,r0,r1,r2]) rfl
  ⟨e6.next b3 (fun k hk h=>by omega),a1,c1,a2,c2,w3.heap.size,rfl,BtB.but (World.ownsRow.mono h7 (by omega)) b3 (fun g hg h=>by have:=c6 g hg;omega),BtB.but h5 b3 (fun g hg h=>by have:=e5 g hg;omega),by omega,a4,f9.out⟩
theorem pJ (aa al:Option Addr) (cs cl:Nat) (st lo:List UInt8) (w:World) (hs:BtB w 0 (.slice aa st.length cs) st) (hl:BtB w 0 (.slice al lo.length cl) lo):
  Calls Tryz.prog 173 #[.slice aa st.length cs,.slice al lo.length cl] w fun en w'=>en= .returned (.bool (decide (st=lo)))∧w'=w:=by
 have a0:=fx hs;have a1:=fx hl
 go_in
 go_wp2_with fail;exact bodyPost_ret (v:= .bool (decide (st=lo))) (by simp[results,Tryz.results173,go_sem];rw[Bool.eq_iff_iff];simp) rfl ⟨rfl,rfl⟩
def gX (cs:List bA) (st asked:List UInt8):Bool:=(List.range asked.length).all fun i=>bW cs (st.getD (st.length-asked.length+i) 0) (asked.getD i 0)
def qP (cs:List bA) (ms:List Sig) (x:XIt) (ans:UInt8) (st lo:List UInt8):Option (List UInt8×List UInt8):=
 if st.length<(ay cs ms x.op x.cls x.num ans).length∨gX cs st (ay cs ms x.op x.cls x.num ans)=false then none else
 if x.op.toNat=115∧ ¬x.num<lo.length then none else
 if x.op.toNat=108∧(aF cs ms x.op x.cls x.num (if x.op.toNat=115 then lo.set x.num (st.getD (st.length-(ay cs ms x.op x.cls x.num ans).length) 0)else lo)).toNat=45 then none else
 some (st.take (st.length-(ay cs ms x.op x.cls x.num ans).length)++(if(aF cs ms x.op x.cls x.num (if x.op.toNat=115 then lo.set x.num (st.getD (st.length-(ay cs ms x.op x.cls x.num ans).length) 0)else lo)).toNat=0 then []else [aF cs ms x.op x.cls x.num (if x.op.toNat=115 then lo.set x.num (st.getD (st.length-(ay cs ms x.op x.cls x.num ans).length) 0)else lo)]),
  if x.op.toNat=115 then lo.set x.num (st.getD (st.length-(ay cs ms x.op x.cls x.num ans).length) 0)else lo)
structure BhW (w wx:World) (c r:UInt8) (m:Nat) (vl vi:Value) (pl nu:Nat) (op ic:UInt8) (pa:Option Addr) (pn pc:Nat):Prop where
 but:But (fun _=>False) w wx
 bod:wx.heap[w.heap.size]?=some (.cells #[.int .u8 c.toNat,.int .i64 m,.int .u8 r.toNat,vl,vi] 115)
 item:wx.heap[w.heap.size+1]?=some (.cells #[.int .i64 pl,.int .u8 op.toNat,.int .u8 ic.toNat,.int .i64 nu,.slice pa pn pc] 219)
 res:wx.heap[w.heap.size+1+1+1]?=some (.cells #[.bool false,.slice none 0 0,.slice none 0 0] 117)
section
variable {w w1 w2:World} {c r:UInt8} {m:Nat} {vl vi:Value} {pl nu:Nat} {op ic:UInt8} {pa:Option Addr} {pn pc:Nat}
theorem BhW.next {F:Nat→Prop} (h:BhW w w1 c r m vl vi pl nu op ic pa pn pc) (hb:But F w1 w2) (hF: ∀k,k<w.heap.size+4→ ¬F k):BhW w w2 c r m vl vi pl nu op ic pa pn pc:=
 ⟨h.but.next hb (fun k hk hf=>hF k (by omega) hf),(hb.block _ (ae h.bod) (hF _ (by omega))).trans h.bod,(hb.block _ (ae h.item) (hF _ (by omega))).trans h.item,(hb.block _ (ae h.res) (hF _ (by omega))).trans h.res⟩
theorem BhW.gt (h:BhW w w1 c r m vl vi pl nu op ic pa pn pc):w.heap.size+3<w1.heap.size:=ae h.res
end
theorem jm {w:World} {g t:Nat} {x0 x1 x2:Value} (h:w.heap[g]?=some (.cells #[x0,x1,x2] t)):w.frozen? ⟨g,0,none⟩=false∧w.frozen? ⟨g,1,none⟩=false∧w.frozen? ⟨g,2,none⟩=false:=
 ⟨frozen_of_row w g 0 _ _ h,frozen_of_row w g 1 _ _ h,frozen_of_row w g 2 _ _ h⟩
def AB (w:World) (g:Nat) (x0 x1 x2:Value):World:=((w.setCell ⟨g,0,none⟩ x0).setCell ⟨g,1,none⟩ x1).setCell ⟨g,2,none⟩ x2
theorem pK {w:World} {g t:Nat} {a0 a1 a2:Value} (h:w.heap[g]?=some (.cells #[a0,a1,a2] t)) (x0 x1 x2:Value):(AB w g x0 x1 x2).heap[g]?=some (.cells #[x0,x1,x2] t):=by
 have h1:=heap_setCell_same w g 0 _ _ x0 h;have h2:=heap_setCell_same _ g 1 _ _ x1 h1;exact heap_setCell_same _ g 2 _ _ x2 h2
theorem sH (w:World) (g:Nat) (x0 x1 x2:Value):But (· =g) w (AB w g x0 x1 x2):=((But.setB w g 0 x0).trans (But.setB _ g 1 x1)).trans (But.setB _ g 2 x2)
theorem lG {fn:Func} {R:Ending→World→Prop} {a:Act} {w:World} {c f g:Nat} {a0 a1 a2 x0 x1 x2:Value} {e:Bool} (hf:fn.results=#[.cell c 117,.tmp f]) (hd:a.defers=[]) (hc:a.tmps.getD c undef= .pointer (some ⟨g,0,none⟩)) (he:a.tmps.getD f undef= .bool e) (h:w.heap[g]?=some (.cells #[a0,a1,a2] 117)) (hR: ∀w9,w9.heap[g]?=some (.cells #[x0,x1,x2] 117)→But (· =g) w w9→R (.returned (.tuple #[.agg #[x0,x1,x2],.bool e])) w9):bodyPost Tryz.prog fn R .ret a (((w.setCell ⟨g,0,none⟩ x0).setCell ⟨g,1,none⟩ x1).setCell ⟨g,2,none⟩ x2):=by
 have h9:=pK h x0 x1 x2;have r0:=ce0 h9;have r1:=ce1 h9;have r2:=ce2 h9;refine bodyPost_ret (v:= .tuple #[.agg #[x0,x1,x2],.bool e]) ?_ hd (hR _ h9 (sH w g x0 x1 x2));have a3:a.tmps[c]?.getD undef= .pointer (some ⟨g,0,none⟩):=by simpa using hc
 have a4:a.tmps[f]?.getD undef= .bool e:=by simpa using he
 unfold AB at r0 r1 r2;simp[results,hf,a3,a4,go_sem,r0,r1,r2]
theorem BtB.pre {w:World} {base g cap n:Nat} {l:List UInt8} (h:BtB w base (.slice (some ⟨g,0,none⟩) l.length cap) l) (hn:n≤l.length):BtB w base (.slice (some ⟨g,0,none⟩) (l.take n).length cap) (l.take n):=by
 have hl:(l.take n).length=n:=by simp;omega
 rcases h.2 with⟨h1,_⟩ | ⟨g',cap',cur,h1,h2,h3,h4,h5,h6,h7⟩
 ·cases h1
 ·have e1:cap=cap':=congrArg (fun v=>match v with|Value.slice _ _ c=>c|_=>0) h1
  have e2:g=g':=by
   have:=congrArg (fun v=>match v with|Value.slice (some a) _ _=>a.block|_=>0) h1;exact this
  subst e1 e2;refine⟨by simp[aM],Or.inr ⟨g,cap,cur,by rw[hl],h2,h3,by rw[hl];omega,h5,h6,?_⟩⟩;rw[hl];simp only[Nat.mul_one]at h7⊢;have:cur.toList.take n=(cur.toList.take l.length).take n:=by rw[List.take_take,Nat.min_eq_left hn]
  rw[this,h7];simp[aM,List.map_take]
theorem BtB.cap {w:World} {base cap:Nat} {ao:Option Addr} {l:List UInt8} (h:BtB w base (.slice ao l.length cap) l):l.length≤cap:=by
 rcases h.2 with⟨h1,h2⟩ | ⟨g',cap',cur,h1,_,_,h4,_⟩
 ·omega
 ·have e1:cap=cap':=congrArg (fun v=>match v with|Value.slice _ _ c=>c|_=>0) h1;rw[e1];exact h4
theorem BtB.put {w:World} {base g cap k:Nat} {l:List UInt8} (h:BtB w base (.slice (some ⟨g,0,none⟩) l.length cap) l) (c:UInt8):BtB (w.setCell ⟨g,k,none⟩ (.int .u8 c.toNat)) base (.slice (some ⟨g,0,none⟩) l.length cap) (l.set k c):=by
 rcases h.2 with⟨h1,_⟩ | ⟨g',cap',cur,h1,h2,h3,h4,h5,h6,h7⟩
 ·cases h1
 ·have e1:cap=cap':=congrArg (fun v=>match v with|Value.slice _ _ c=>c|_=>0) h1;have e2:g=g':=congrArg (fun v=>match v with|Value.slice (some a) _ _=>a.block|_=>0) h1;subst e1 e2;refine⟨by simp[aM],Or.inr ⟨g,cap,cur.setIfInBounds k (.int .u8 c.toNat),by simp,h2,heap_setCell_same w g k _ _ _ h3,by simpa using h4,h5,by simpa using h6,?_⟩⟩;simp only[Nat.mul_one,List.length_set]at h7⊢;rw[Array.toList_setIfInBounds,List.take_set,h7];simp[aM,List.map_set]
theorem BtB.row {w:World} {base g cap:Nat} {n:Nat} {l:List UInt8} (h:BtB w base (.slice (some ⟨g,0,none⟩) n cap) l): ∃cur,w.heap[g]?=some (.cells cur 5):=by
 rcases h.2 with⟨h1,_⟩ | ⟨g',cap',cur,h1,h2,h3,_⟩
 ·cases h1
 ·have e2:g=g':=congrArg (fun v=>match v with|Value.slice (some a) _ _=>a.block|_=>0) h1;subst e2;exact⟨cur,h3⟩
theorem uu (cs:List bA) (ms:List Sig) (c k:UInt8) (n:Nat) (ans:UInt8):(ay cs ms c k n ans).length≤2:=by
 unfold ay
 repeat' split
 all_goals simp
theorem sI (b:Nat) (cs:List bA) (ms:List Sig) (c r:UInt8) (m:Nat) (vl vi:Value) (x:XIt) (aa al:Option Addr) (ca cl:Nat) (st lo:List UInt8) (w:World) (hn:cs.length≤100) (hm:ms.length≤100) (hT:TxC w b cs) (hM:TxM w b ms)
  (hvl:vl.oneCell'=true) (hvi:vi.oneCell'=true) (hs:BtB w 0 (.slice aa st.length ca) st) (hl:BtB w 0 (.slice al lo.length cl) lo) (h1:st.length≤200) (h2:lo.length≤200):
  Calls Tryz.prog 174 #[.pointer (some ⟨b,0,none⟩),hdV c m r vl vi,itV x,xsV true (.slice aa st.length ca) (.slice al lo.length cl)] w fun en w'=>But (fun _=>False) w w'∧
   ((qP cs ms x r st lo=none∧en= .returned (.tuple #[xsV false (.slice none 0 0) (.slice none 0 0),.bool false]))∨
    (∃st' lo' a1 c1 a2 c2,qP cs ms x r st lo=some (st',lo')∧en= .returned (.tuple #[xsV true (.slice a1 (List.length st') c1) (.slice a2 (List.length lo') c2),.bool true])∧BtB w' w.heap.size (.slice a1 st'.length c1) st'∧BtB w' w.heap.size (.slice a2 lo'.length c2) lo')):=by
 obtain⟨pl,op,ic,nu,pa,pn,pc⟩:=x;obtain⟨t0,y1,y2,y3,y4⟩:=info_parts iR;unfold hdV itV xsV
 have p5:BhW w ((((w.alloc (.cells #[.int .u8 c.toNat,.int .i64 m,.int .u8 r.toNat,vl,vi] 115)).alloc (.cells #[.int .i64 pl,.int .u8 op.toNat,.int .u8 ic.toNat,.int .i64 nu,.slice pa pn pc] 219)).alloc (.cells #[.bool true,.slice aa st.length ca,.slice al lo.length cl] 117)).alloc (.cells #[.bool false,.slice none 0 0,.slice none 0 0] 117)) c r m vl vi pl nu op ic pa pn pc:=by
  refine⟨(((But.alloc _ _ _).trans (But.alloc _ _ _)).trans (But.alloc _ _ _)).trans (But.alloc _ _ _),?_,?_,aq (by simp) _⟩
  ·rw[Below.heap_alloc _ _ _ (by simp;omega),Below.heap_alloc _ _ _ (by first| (simp;done) | (simp;omega)),Below.heap_alloc _ _ _ (by first| (simp;done) | (simp;omega))];exact heap_alloc_new w _
  ·rw[Below.heap_alloc _ _ _ (by simp),Below.heap_alloc _ _ _ (by simp)];exact aq (by simp) _
 have y0:=hs.but p5.but (fun _ _ h=>h);have x7:=hl.but p5.but (fun _ _ h=>h);have w0:=hid p5;have r3:=hid (mD 0 true aa al ca cl st lo _ y0 x7 (by omega) (by omega));have y6:((((w.alloc (.cells #[.int .u8 c.toNat,.int .i64 m,.int .u8 r.toNat,vl,vi] 115)).alloc (.cells #[.int .i64 pl,.int .u8 op.toNat,.int .u8 ic.toNat,.int .i64 nu,.slice pa pn pc] 219)).alloc (.cells #[.bool true,.slice aa st.length ca,.slice al lo.length cl] 117)).alloc (.cells #[.bool false,.slice none 0 0,.slice none 0 0] 117)).heap.size=w.heap.size+1+1+1+1:=by simp
 have w8:=hid y6;clear p5 y0 x7 y6;unfold xsV at r3
 go_in
 go_wp2_with fail;refine r3.out.mono ?_;rintro en w1 ⟨x1,a1,c1,a2,c2,G2,rfl,p0,v0,z1,i7,v4⟩;have n3:=w0.out.next x1 (fun _ _ h=>h);rw[w8.out]at p0 z1
 obtain⟨gq,B2⟩: ∃gq,a1=some ⟨gq,0,none⟩:=by
  rcases p0.2 with⟨h,_⟩ | ⟨g,cap,cur,h,_⟩
  ·rw[h]at v4;exact absurd rfl v4
  ·exact⟨g,congrArg (fun v=>match v with|Value.slice a _ _=>a|_=>none) h⟩
 subst B2;clear v4;clear r3 w0 w8 x1;have C1:=n3.gt;have f6:But (fun _=>False) w1 (w1.alloc (.cells #[.bool true,.slice (some ⟨gq,0,none⟩) st.length c1,.slice a2 lo.length c2] 117)):=But.alloc _ _ _;have p6:=heap_alloc_new w1 (.cells #[.bool true,.slice (some ⟨gq,0,none⟩) st.length c1,.slice a2 lo.length c2] 117);have k0:=n3.next f6 (fun _ _ h=>h);have q7:=p0.but f6 (fun _ _ h=>h);have q5:=v0.but f6 (fun _ _ h=>h);have f3:=aX p0;have e9:=aX v0;obtain⟨i0,i1,i2,i3,i4⟩:=bp n3.item;obtain⟨d0,d1,d2,d3,d4⟩:=bp n3.bod;have l0:w.heap.size<w1.heap.size:=by omega
 have l1:w.heap.size+1<w1.heap.size:=by omega
 clear n3 p0 v0;go_wp2_with fail;revert f6 p6 k0 q7 q5;generalize (w1.alloc (.cells #[.bool true,.slice (some ⟨gq,0,none⟩) st.length c1,.slice a2 lo.length c2] 117))=w2;intro f6 p6 k0 q7 q5;have r5:=hid (kK (ap:=pa) (np:=pn) (cp:=pc) b cs ms pl nu op ic r w2 hn hm (hT.but k0.but) (hM.but k0.but));have z5:=uu cs ms op ic nu r
 have v6:Hid (∀T,ay cs ms op ic nu r=T→qP cs ms ⟨pl,op,ic,nu,pa,pn,pc⟩ r st lo=
   if st.length<T.length∨gX cs st T=false then none else
   if op.toNat=115∧ ¬nu<lo.length then none else
   if op.toNat=108∧(aF cs ms op ic nu (if op.toNat=115 then lo.set nu (st.getD (st.length-T.length) 0)else lo)).toNat=45 then none else
   some (st.take (st.length-T.length)++(if(aF cs ms op ic nu (if op.toNat=115 then lo.set nu (st.getD (st.length-T.length) 0)else lo)).toNat=0 then []else [aF cs ms op ic nu (if op.toNat=115 then lo.set nu (st.getD (st.length-T.length) 0)else lo)]),
    if op.toNat=115 then lo.set nu (st.getD (st.length-T.length) 0)else lo)):=hid (fun T h=>by subst h;rfl)
 obtain⟨T,p4⟩: ∃T,ay cs ms op ic nu r=T:=⟨_,rfl⟩;have h6:=hid (v6.out T p4);have h0:op.toNat=115→0<T.length:=fun h=>by rw[←p4];simp[ay,h]
 have m2:=hid h0;clear h0;rw[p4]at r5 z5;clear v6 p4;refine r5.out.mono ?_;rintro en w3 ⟨n0,v3,rfl,x0⟩;obtain⟨a3,c3,C8⟩:=aw x0;subst C8;clear r5;have n4:=k0.next n0 (fun _ _ h=>h);have C7:=q7.but n0 (fun _ _ h=>h);have C4:=q5.but n0 (fun _ _ h=>h);have p8:=n0.kp p6;have t3:=ae p8;have C9:=n0.size;obtain⟨b0,b1,b2⟩:=fw p8;obtain⟨i0,i1,i2,i3,i4⟩:=bp n4.item;obtain⟨r0,r1,r2⟩:=fw n4.res;obtain⟨f0,f1,f2⟩:=jm n4.res;have r6:=hid n4;have y9:=hid p8;clear k0 q7 q5 p6 f6 p8 n4 d0 d1 d2 d3 d4
 by_cases hlen:st.length<T.length
 ·have C6:(st.length:Int)-(T.length:Int)<0:=by omega
  have hN:qP cs ms ⟨pl,op,ic,nu,pa,pn,pc⟩ r st lo=none:=by rw[h6.out,if_pos (Or.inl hlen)]
  have HN:=hid hN;clear hN h6;go_wp2_with fail;refine lG Tryz.results174 rfl rfl rfl r6.out.res (fun w9 h9 h9b=> ?_);exact⟨r6.out.but.next h9b (fun k hk h=>by omega),Or.inl ⟨HN.out,rfl⟩⟩
 ·obtain⟨RR,s3⟩: ∃RR,st.length-T.length=RR:=⟨_,rfl⟩;rw[s3]at h6;have x9:(st.length:Int)-(T.length:Int)=(RR:Int):=by omega
  have D7:RR+T.length≤st.length:=by omega
  have v8:=hid s3;have D1: ¬(RR:Int)<0:=by omega
  clear s3;go_wp2_with fail
  go_loopg [13] T.length (fun mm is wr=> ∃k:Nat,is= .int .i64 k∧k≤T.length∧k+mm≤T.length∧T.length≤k+mm∧But (fun _=>False) w3 wr∧Hid (∀i,i<k→bW cs (st.getD (RR+i) 0) (T.getD i 0)=true))
  case atStart=>exact⟨0,rfl,by omega,by omega,by omega,But.refl _ _,fun i hi=>absurd hi (by omega)⟩
  case round=>
   obtain⟨k,rfl,D8,C2,D9,i6,HA⟩:=hrel;clear C2;have n6:=r6.out.next i6 (fun _ _ h=>h);have l3:=C7.but i6 (fun _ _ h=>h);have j3:=C4.but i6 (fun _ _ h=>h);have s0:=x0.but i6 (fun _ _ h=>h);have q3:=(i6.block w1.heap.size t3 (fun h=>h)).trans y9.out;have E0:=i6.size;have e8:=ae q3;clear b0 b1 b2 i0 i1 i2 i3 i4 r0 r1 r2 f0 f1 f2;obtain⟨b0,b1,b2⟩:=fw q3;obtain⟨i0,i1,i2,i3,i4⟩:=bp n6.item;obtain⟨r0,r1,r2⟩:=fw n6.res;obtain⟨f0,f1,f2⟩:=jm n6.res;have d6:=hid n6;have p2:=hid q3;clear n6 q3
   by_cases hlt:k<T.length
   ·have C3:(k:Int)<(T.length:Int):=by omega
    have z2:RR+k<st.length:=by omega
    obtain⟨gs,q4,j2,_,o0⟩:=aI l3 (by omega);obtain⟨ga,z8,s5,_,x4⟩:=aI s0 (by omega);have q1:=o0 _ _ (cZ z2);have q2:=x4 _ _ (cZ hlt);have D2:((RR+k:Nat):Int)<(st.length:Int):=by omega
    have j1:gs=gq:=by have:=Option.some.inj q4;injection this with h;exact h.symm
    subst j1 z8;have g5:=hid (fun(h:bW cs (st.getD (RR+k) 0) (T.getD k 0)=true)=>(fun i (hi:i<k+1)=>if hik:i=k then(by rw[hik];exact h)else HA.out i (by omega): ∀i,i<k+1→bW cs (st.getD (RR+i) 0) (T.getD i 0)=true))
    have g4:=hid (fun(h:bW cs (st.getD (RR+k) 0) (T.getD k 0)=false)=>(show gX cs st T=false from by
     unfold gX;rw[List.all_eq_false];exact⟨k,List.mem_range.2 hlt,by rw[v8.out,h];simp⟩))
    clear o0 x4 HA;revert q1 q2 g5 g4;generalize st.getD (RR+k) 0=y;generalize T.getD k 0=z;intro q1 q2 g5 g4;go_wp2_with fail;have g7:But (fun _=>False) wr wr.drew:=But.drew _ _;have v9:=hid (nM b cs y z wr.drew hn ((hT.but d6.out.but).but g7));have D3:(RR:Int)+(k:Int)<(st.length:Int):=by omega
    have D4:(0:Int)≤(RR:Int)+(k:Int):=by omega
    have D5:((RR:Int)+(k:Int)).toNat=RR+k:=by omega
    have D6:IntKind.i64.wrap ((RR:Int)+(k:Int))=(RR:Int)+(k:Int):=dE _ (by omega) (by omega);refine aD (But (fun _=>False) wr) 14 (by kernel_rfl) ?_
    iterate 12 (refine aJ (v:=?_) rfl (by kernel_rfl) (fun _ _ _ h=>h) rfl g7 ?_ ?_;rotate_left;(focus (intro wS h;have q0:=(h.kc b1 e8);have q1:=(h.kc q1 j2);have q2:=(h.kc q2 s5);clear h;go_simp;try rfl));dsimp only[Act.put];try simp only[aL])
    refine ah rfl (by kernel_rfl) ?_;intro KS hKS;go_simp;refine v9.out.mono ?_;rintro en wx ⟨rfl,y5⟩;rw[y5];clear y5 wx v9;refine hKS.out _ _ (fun _=>g7) ?_;clear hKS KS;refine ah rfl (by kernel_rfl) ?_;intro KS hKS;go_simp;refine hKS.out _ _ (fun _=>g7) ?_;clear hKS KS;refine aH rfl (by kernel_rfl) ?_;have k9:=d6.out.next g7 (fun _ _ h=>h);have s1:=i6.trans g7;clear b0 b1 b2 i0 i1 i2 i3 i4 r0 r1 r2 f0 f1 f2 q1 q2;revert k9 s1;generalize wr.drew=wd;intro k9 s1;obtain⟨r0,r1,r2⟩:=fw k9.res;obtain⟨f0,f1,f2⟩:=jm k9.res;revert g5 g4
    cases bW cs y z with
    |true=>
     intro g5 g4;have q9:=hid (g5.out rfl);clear g5 g4;go_wp2_with fail
     go_roundg (T.length-(k+1))
     case measure=>omega
     case rel=>exact⟨k+1,by simp,by omega,by omega,by omega,s1,q9.out⟩
    |false=>
     intro g5 g4;have hN:qP cs ms ⟨pl,op,ic,nu,pa,pn,pc⟩ r st lo=none:=by rw[h6.out,if_pos (Or.inr (g4.out rfl))]
     have HN:=hid hN;have w4:=hid k9;clear hN h6 g5 g4 k9;go_wp2_with fail;refine lG Tryz.results174 rfl rfl rfl w4.out.res (fun w9 h9 h9b=> ?_);exact⟨w4.out.but.next h9b (fun k hk h=>by omega),Or.inl ⟨HN.out,rfl⟩⟩
   ·have C3: ¬(k:Int)<(T.length:Int):=by omega
    have n7:gX cs st T=true:=by
     unfold gX;rw[List.all_eq_true];intro i hi;rw[v8.out];exact HA.out i (by have:=List.mem_range.1 hi;omega)
    have f6:=h6.out;rw[if_neg (by rw[n7];simp;omega)]at f6;have j5:=hid f6;clear n7 f6 h6 HA
    by_cases h115:op.toNat=115
    ·have m5:((op.toNat:Int)==115)=true:=by rw[beq_iff_eq];omega
     have x2:=m2.out h115
     by_cases hnu:nu<lo.length
     ·have C5:(nu:Int)<(lo.length:Int):=by omega
      have a0:=j5.out;rw[if_neg (fun h=>h.2 hnu)]at a0;simp only[if_pos h115]at a0;have f4:=hid a0;have h5:=hid h115;clear a0 j5 h115;go_wp2_with fail;obtain⟨gl,A0,A1,s9,hcl⟩:=aI j3 (by omega);subst A0;obtain⟨cur,o1⟩:=BtB.row j3;have fz:=frozen_of_row wr gl nu _ _ o1;have ql:=hcl _ _ (cZ hnu);obtain⟨gs,q4,j2,_,o0⟩:=aI l3 (by omega);have j1:gs=gq:=by have:=Option.some.inj q4;injection this with h;exact h.symm
      subst j1;have z3:RR<st.length:=by omega
      have z4:(RR:Int)<(st.length:Int):=by omega
      have q1:=o0 _ _ (cZ z3);have j4:aF cs ms op ic nu (lo.set nu (st.getD RR 0))=0:=by simp[aF,h5.out]
      have a0:=f4.out;rw[j4]at a0;simp only[show¬(op.toNat=108∧(0:UInt8).toNat=45)from fun h=>by have:=h5.out;omega,if_false,show(0:UInt8).toNat=0 from rfl,if_true,List.append_nil]at a0;have f7:=hid a0;have p3:=hid j4;clear a0 f4 j4 hcl o0 o1 s0 q4;revert q1 f7 p3;generalize st.getD RR 0=y;intro q1 f7 p3;have g7:But (fun _=>False) wr wr.drew:=But.drew _ _;have x8:=e9 gl rfl;have C0:=i7 gs rfl;have x5:G2≤gl:=s9;have x6:gl≠w.heap.size+1:=by omega
      refine aD (But (fun _=>False) wr) 9 (by kernel_rfl) ?_
      iterate 9 (refine aJ (v:=?_) rfl (by kernel_rfl) (fun _ _ _ h=>h) rfl g7 ?_ ?_;rotate_left;(focus (intro wS h;have Q0:=(h.kc b1 e8);have Q1:=(h.kc b2 e8);have Q2:=(h.kc i3 (ae d6.out.item));have Q3:=(h.kc q1 j2);clear h;go_simp;try rfl));dsimp only[Act.put];try simp only[aL])
      refine ah rfl (by kernel_rfl) ?_;intro KS hKS;go_simp;refine hKS.out _ _ nofun ?_;clear hKS KS;refine ah rfl (by kernel_rfl) ?_;intro KS hKS;go_simp;refine hKS.out _ _ nofun ?_;clear hKS KS;refine aH rfl (by kernel_rfl) ?_;have s2:But (· =gl) wr (wr.setCell ⟨gl,nu,none⟩ (.int .u8 y.toNat)).drew:=(But.setB _ _ _ _).trans (But.drew _ _);have j0:=d6.out.next s2 (fun k hk h=>by omega);have v5:=l3.but s2 (fun g hg h=>by have h2:gs=g:=Option.some.inj hg;omega);have q6:=(j3.put (k:=nu) y).but (But.drew (fun _=>False) _) (fun _ _ h=>h);have b6:=(s2.block w1.heap.size e8 (by omega)).trans p2.out;clear b0 b1 b2 i0 i1 i2 i3 i4 r0 r1 r2 f0 f1 f2 l3 j3 d6 p2 fz ql q1
      revert j0 v5 q6 b6;generalize (wr.setCell ⟨gl,nu,none⟩ (.int .u8 y.toNat)).drew=wq;intro j0 v5 q6 b6;obtain⟨b0,b1,b2⟩:=fw b6;obtain⟨i0,i1,i2,i3,i4⟩:=bp j0.item;have g0:(lo.set nu y).length=lo.length:=by simp
      have t6:=ae b6;have v2:=fd (ap:=pa) (np:=pn) (cp:=pc) b cs ms pl nu op ic (some ⟨gl,0,none⟩) c2 (lo.set nu y) wq hn hm (hT.but j0.but) (hM.but j0.but) (by rw[g0];exact World.ownsRow.mono q6 (Nat.zero_le _));rw[g0,p3.out]at v2;have z0:=hid v2;have m0:=hid g0;have w6:=hid j0;have v7:=hid b6;clear v2 g0 j0 b6 p3;go_wp2_with fail;refine z0.out.mono ?_;rintro en w5 ⟨rfl,f8⟩;have e5:=w6.out.next f8 (fun _ _ h=>h);have b4:=v5.but f8 (fun _ _ h=>h);have g3:=q6.but f8 (fun _ _ h=>h);have e7:=(f8.block w1.heap.size t6 (fun h=>h)).trans v7.out;have t4:=ae e7;clear b0 b1 b2 i0 i1 i2 i3 i4;obtain⟨b0,b1,b2⟩:=fw e7
      obtain⟨e0,e1,e2⟩:=jm e7;obtain⟨i0,i1,i2,i3,i4⟩:=bp e5.item;obtain⟨r0,r1,r2⟩:=fw e5.res;obtain⟨f0,f1,f2⟩:=jm e5.res;have j7:=hid e5;have l4:=hid e7;have m4:((op.toNat:Int)==108)=false:=by rw[beq_eq_false_iff_ne];have:=h5.out;omega
      clear e5 e7 w6 v7 m5;have n9:=b4.cap;have x3:(RR:Int)≤(c1:Int):=by omega
      have a7:But (· =w1.heap.size) w5 (w5.setCell ⟨w1.heap.size,1,none⟩ (.slice (some ⟨gs,0,none⟩) RR c1)):=But.setB w5 w1.heap.size 1 (.slice (some ⟨gs,0,none⟩) RR c1);have h3:=j7.out.next a7 (fun k hk h=>by omega);have e4:(st.take RR).length=RR:=by simp;omega
      have g6:=b4.pre (n:=RR) (by omega);have e3:=g6.but a7 (fun g hg h=>by have:=f3 g hg;omega);have h4:=g3.but a7 (fun g hg h=>by have h2:gl=g:=Option.some.inj hg;omega);have b5:=hid e4;rw[e4]at e3;have b9:=hid e3;have c6:=hid h4;have f5:=hid h3;clear a7 h3 g6 e3 h4 e4;go_wp2_with fail;refine lG Tryz.results174 rfl rfl rfl f5.out.res (fun w9 h9 h9b=> ?_);refine⟨f5.out.but.next h9b (fun k hk h=>by omega),Or.inr ⟨st.take RR,lo.set nu y,some ⟨gs,0,none⟩,c1,some ⟨gl,0,none⟩,c2,by rw[f7.out,if_neg (fun h=>absurd h.2 (by decide))],by rw[b5.out,m0.out],?_,?_⟩⟩
      ·rw[b5.out];exact BtB.but (World.ownsRow.mono b9.out (by omega)) h9b (fun g hg h=>by have:=aA b9.out g hg;omega)
      ·rw[m0.out];exact BtB.but (World.ownsRow.mono c6.out (by omega)) h9b (fun g hg h=>by have h2:gl=g:=Option.some.inj hg;omega)
     ·have C5: ¬(nu:Int)<(lo.length:Int):=by omega
      have hN:qP cs ms ⟨pl,op,ic,nu,pa,pn,pc⟩ r st lo=none:=by rw[j5.out,if_pos ⟨h115,hnu⟩]
      have HN:=hid hN;clear hN j5 h115;go_wp2_with fail;refine lG Tryz.results174 rfl rfl rfl d6.out.res (fun w9 h9 h9b=> ?_);exact⟨d6.out.but.next h9b (fun k hk h=>by omega),Or.inl ⟨HN.out,rfl⟩⟩
    ·have m5:=tf op.toNat 115 (by omega);have a0:=j5.out;rw[if_neg (fun h=>h115 h.1)]at a0;simp only[if_neg h115]at a0;have f4:=hid a0;clear a0 j5;go_wp2_with fail;refine(fd (ap:=pa) (np:=pn) (cp:=pc) b cs ms pl nu op ic a2 c2 lo wr hn hm (hT.but d6.out.but) (hM.but d6.out.but) (World.ownsRow.mono j3 (Nat.zero_le _))).mono ?_;rintro en w5 ⟨rfl,f8⟩;obtain⟨L,hL⟩: ∃L,aF cs ms op ic nu lo=L:=⟨_,rfl⟩;rw[hL];rw[hL]at f4;clear hL;have e5:=d6.out.next f8 (fun _ _ h=>h);have b4:=l3.but f8 (fun _ _ h=>h);have g3:=j3.but f8 (fun _ _ h=>h);have e7:=(f8.block w1.heap.size e8 (fun h=>h)).trans p2.out;have t4:=ae e7
     clear b0 b1 b2 i0 i1 i2 i3 i4 r0 r1 r2 f0 f1 f2 l3 j3 s0;obtain⟨b0,b1,b2⟩:=fw e7;obtain⟨e0,e1,e2⟩:=jm e7;obtain⟨i0,i1,i2,i3,i4⟩:=bp e5.item;obtain⟨r0,r1,r2⟩:=fw e5.res;obtain⟨f0,f1,f2⟩:=jm e5.res;have j7:=hid e5;have l4:=hid e7;clear e5 e7 d6 p2
     by_cases h108:op.toNat=108
     ·have m4:((op.toNat:Int)==108)=true:=by rw[beq_iff_eq];omega
      by_cases h45:L.toNat=45
      ·have eL:((L.toNat:Int)==45)=true:=by rw[beq_iff_eq];omega
       have hN:qP cs ms ⟨pl,op,ic,nu,pa,pn,pc⟩ r st lo=none:=by rw[f4.out,if_pos ⟨h108,h45⟩]
       have HN:=hid hN;clear hN f4 h108 h45 h115;go_wp2_with fail;refine lG Tryz.results174 rfl rfl rfl j7.out.res (fun w9 h9 h9b=> ?_);exact⟨j7.out.but.next h9b (fun k hk h=>by omega),Or.inl ⟨HN.out,rfl⟩⟩
      ·have eL:=tf L.toNat 45 (by omega);have i5:=f4.out;rw[if_neg (fun h=>h45 h.2)]at i5;have f7:=hid i5;clear i5 h108 h45 h115;have n9:=b4.cap;have x3:(RR:Int)≤(c1:Int):=by omega
       have a7:But (· =w1.heap.size) w5 (w5.setCell ⟨w1.heap.size,1,none⟩ (.slice (some ⟨gq,0,none⟩) RR c1)):=But.setB w5 w1.heap.size 1 (.slice (some ⟨gq,0,none⟩) RR c1);have h3:=j7.out.next a7 (fun k hk h=>by omega);have o2:=heap_setCell_same w5 w1.heap.size 1 _ _ (.slice (some ⟨gq,0,none⟩) RR c1) l4.out;have e4:(st.take RR).length=RR:=by simp;omega
       have g6:=b4.pre (n:=RR) (by omega);have e3:=g6.but a7 (fun g hg h=>by have:=f3 g hg;omega);have h4:=g3.but a7 (fun g hg h=>by have:=e9 g hg;omega);have p1:(w5.setCell ⟨w1.heap.size,1,none⟩ (.slice (some ⟨gq,0,none⟩) RR c1)).heap.size=w5.heap.size:=bV _ _ _;have b5:=hid e4;rw[e4]at e3;have b9:=hid e3;have c6:=hid h4;have f5:=hid h3;have l5:=hid o2;have y7:=hid a7;have r8:=hid p1;have D0:=ae l4.out;clear a7 h3 o2 g6 e3 h4 e4 p1 f4
       by_cases hL0:L.toNat=0
       ·have h7:((L.toNat:Int)==0)=true:=by rw[beq_iff_eq];omega
        have h8:((L.toNat:Int)!=0)=false:=by simp[bne,h7]
        have b3:(L.toNat:Int)=0:=by omega
        have q8:=hid b3;clear b3;have a8:=hid hL0;clear hL0;go_wp2_with fail;refine lG Tryz.results174 rfl rfl rfl f5.out.res (fun w9 h9 h9b=> ?_);refine⟨f5.out.but.next h9b (fun k hk h=>by omega),Or.inr ⟨st.take RR,lo,some ⟨gq,0,none⟩,c1,a2,c2,by rw[f7.out,if_pos a8.out,List.append_nil],by rw[b5.out],?_,?_⟩⟩
        ·rw[b5.out];exact BtB.but (World.ownsRow.mono b9.out (by omega)) h9b (fun g hg h=>by have:=aA b9.out g hg;omega)
        ·exact BtB.but (World.ownsRow.mono c6.out (by omega)) h9b (fun g hg h=>by have:=aA c6.out g hg;omega)
       ·have h7:=tf L.toNat 0 (by omega);have h8:((L.toNat:Int)!=0)=true:=by simp[bne,h7]
        have b3: ¬(L.toNat:Int)=0:=by omega
        have a8:=hid hL0;clear hL0
        have n1:(w5.setCell ⟨w1.heap.size,1,none⟩ (.slice (some ⟨gq,0,none⟩) RR c1)).ownsRow (w.heap.size+1+1+1+1) 5 1 (.slice (some ⟨gq,0,none⟩) RR c1) RR (aM (st.take RR)):=by
         have:=b9.out;unfold BtB at this;rw[b5.out]at this;exact this
        have r4:=hid n1;clear n1;go_wp2_with (at_builtin;refine wpList_append_lies _ rfl _ _ _ rfl (w.heap.size+1+1+1+1) 5 t0 _ 1 1 (by kernel_rfl) y1 y2 y3 y4 rfl (by omega) _ RR (aM (st.take RR)) rfl (r4.out.alloc _) ⟨w5.heap.size,0,none⟩ 1 1 [.int .u8 L.toNat] rfl rfl (World.news_of_block (cs:=#[.int .u8 L.toNat]) (t:=5) (fr:=(0,0)) (aq r8.out _)) (by simp[Value.oneCell']) (by omega) (by unfold maxLen;omega) (by omega) (by simp;omega) (w5.heap.size+1) (by simp) ?_);intro gg a4 w7 a5 a6 n8 v1;have g1:But (fun k'=>(Value.slice (some ⟨gq,0,none⟩) RR c1).ownBlock=some k') (w5.setCell ⟨w1.heap.size,1,none⟩ (.slice (some ⟨gq,0,none⟩) RR c1)) w7:=(But.alloc _ _ _).trans (bc a6)
        have hF: ∀k,k≠gq→ ¬(Value.slice (some ⟨gq,0,none⟩) RR c1).ownBlock=some k:=fun k hk h=>hk (by injection h with h;exact h.symm)
        have o4:=f3 gq rfl;have o3:=aA b9.out gq rfl;have e6:=f5.out.next g1 (fun k hk=>hF k (by omega));have g2:=(g1.block w1.heap.size (ae l5.out) (hF _ (by omega))).trans l5.out;have o5:=c6.out.but g1 (fun g hg=>hF g (fun h=>by have h1:=aA c6.out g hg;have h2:=i7 gq rfl;omega));have z9:=aA a5 gg rfl
        have s6:gg≠w1.heap.size:=fun h=>by
         rcases n8 with h'|h'
         ·have h2:gq=gg:=Option.some.inj h';omega
         ·omega
        clear b0 b1 b2 e0 e1 e2 r0 r1 r2 f0 f1 f2;obtain⟨b0,b1,b2⟩:=fw g2;obtain⟨e0,e1,e2⟩:=jm g2;obtain⟨r0,r1,r2⟩:=fw e6.res;obtain⟨f0,f1,f2⟩:=jm e6.res;have f9:But (· =w1.heap.size) w7 (w7.setCell ⟨w1.heap.size,1,none⟩ (.slice (some ⟨gg,0,none⟩) (RR+1) a4)):=But.setB w7 w1.heap.size 1 (.slice (some ⟨gg,0,none⟩) (RR+1) a4);have n5:=e6.next f9 (fun k hk h=>by omega);have o6:=o5.but f9 (fun g hg h=>by have:=e9 g hg;omega)
        have n2:BtB (w7.setCell ⟨w1.heap.size,1,none⟩ (.slice (some ⟨gg,0,none⟩) (RR+1) a4)) (w.heap.size+1+1+1+1) (.slice (some ⟨gg,0,none⟩) (st.take RR++ [L]).length a4) (st.take RR++ [L]):=by
         unfold BtB;rw[List.length_append,b5.out,aM,List.map_append];exact ag a5 f9 (fun g hg h=>by simp[Value.ownBlock]at hg;omega)
        have m3:=hid n5;have l6:=hid o6;have m1:=hid n2;have t9:=e6.gt;have t5:=ae g2;clear e6 g2 o5 g1 a6 a5 n8 f9 n5 o6 n2 hF;go_wp2_with fail;refine lG Tryz.results174 rfl rfl rfl m3.out.res (fun w9 h9 h9b=> ?_);have s4:(st.take RR++ [L]).length=RR+1:=by rw[List.length_append,b5.out];rfl
        refine⟨m3.out.but.next h9b (fun k hk h=>by omega),Or.inr ⟨st.take RR++ [L],lo,some ⟨gg,0,none⟩,a4,a2,c2,by rw[f7.out,if_neg a8.out],by rw[s4],?_,?_⟩⟩
        ·exact BtB.but (World.ownsRow.mono m1.out (by omega)) h9b (fun g hg h=>by have:=aA m1.out g hg;omega)
        ·exact BtB.but (World.ownsRow.mono l6.out (by omega)) h9b (fun g hg h=>by have:=aA l6.out g hg;omega)
     ·have m4:=tf op.toNat 108 (by omega);have i5:=f4.out;rw[if_neg (fun h=>h108 h.1)]at i5;have f7:=hid i5;clear i5 h108 h115;have n9:=b4.cap;have x3:(RR:Int)≤(c1:Int):=by omega
      have a7:But (· =w1.heap.size) w5 (w5.setCell ⟨w1.heap.size,1,none⟩ (.slice (some ⟨gq,0,none⟩) RR c1)):=But.setB w5 w1.heap.size 1 (.slice (some ⟨gq,0,none⟩) RR c1);have h3:=j7.out.next a7 (fun k hk h=>by omega);have o2:=heap_setCell_same w5 w1.heap.size 1 _ _ (.slice (some ⟨gq,0,none⟩) RR c1) l4.out;have e4:(st.take RR).length=RR:=by simp;omega
      have g6:=b4.pre (n:=RR) (by omega);have e3:=g6.but a7 (fun g hg h=>by have:=f3 g hg;omega);have h4:=g3.but a7 (fun g hg h=>by have:=e9 g hg;omega);have p1:(w5.setCell ⟨w1.heap.size,1,none⟩ (.slice (some ⟨gq,0,none⟩) RR c1)).heap.size=w5.heap.size:=bV _ _ _;have b5:=hid e4;rw[e4]at e3;have b9:=hid e3;have c6:=hid h4;have f5:=hid h3;have l5:=hid o2;have y7:=hid a7;have r8:=hid p1;have D0:=ae l4.out;clear a7 h3 o2 g6 e3 h4 e4 p1 f4
      by_cases hL0:L.toNat=0
      ·have h7:((L.toNat:Int)==0)=true:=by rw[beq_iff_eq];omega
       have h8:((L.toNat:Int)!=0)=false:=by simp[bne,h7]
       have b3:(L.toNat:Int)=0:=by omega
       have q8:=hid b3;clear b3;have a8:=hid hL0;clear hL0;go_wp2_with fail;refine lG Tryz.results174 rfl rfl rfl f5.out.res (fun w9 h9 h9b=> ?_);refine⟨f5.out.but.next h9b (fun k hk h=>by omega),Or.inr ⟨st.take RR,lo,some ⟨gq,0,none⟩,c1,a2,c2,by rw[f7.out,if_pos a8.out,List.append_nil],by rw[b5.out],?_,?_⟩⟩
       ·rw[b5.out];exact BtB.but (World.ownsRow.mono b9.out (by omega)) h9b (fun g hg h=>by have:=aA b9.out g hg;omega)
       ·exact BtB.but (World.ownsRow.mono c6.out (by omega)) h9b (fun g hg h=>by have:=aA c6.out g hg;omega)
      ·have h7:=tf L.toNat 0 (by omega);have h8:((L.toNat:Int)!=0)=true:=by simp[bne,h7]
       have b3: ¬(L.toNat:Int)=0:=by omega
       have a8:=hid hL0;clear hL0
       have n1:(w5.setCell ⟨w1.heap.size,1,none⟩ (.slice (some ⟨gq,0,none⟩) RR c1)).ownsRow (w.heap.size+1+1+1+1) 5 1 (.slice (some ⟨gq,0,none⟩) RR c1) RR (aM (st.take RR)):=by
        have:=b9.out;unfold BtB at this;rw[b5.out]at this;exact this
       have r4:=hid n1;clear n1;go_wp2_with (at_builtin;refine wpList_append_lies _ rfl _ _ _ rfl (w.heap.size+1+1+1+1) 5 t0 _ 1 1 (by kernel_rfl) y1 y2 y3 y4 rfl (by omega) _ RR (aM (st.take RR)) rfl (r4.out.alloc _) ⟨w5.heap.size,0,none⟩ 1 1 [.int .u8 L.toNat] rfl rfl (World.news_of_block (cs:=#[.int .u8 L.toNat]) (t:=5) (fr:=(0,0)) (aq r8.out _)) (by simp[Value.oneCell']) (by omega) (by unfold maxLen;omega) (by omega) (by simp;omega) (w5.heap.size+1) (by simp) ?_);intro gg a4 w7 a5 a6 n8 v1;have g1:But (fun k'=>(Value.slice (some ⟨gq,0,none⟩) RR c1).ownBlock=some k') (w5.setCell ⟨w1.heap.size,1,none⟩ (.slice (some ⟨gq,0,none⟩) RR c1)) w7:=(But.alloc _ _ _).trans (bc a6)
       have hF: ∀k,k≠gq→ ¬(Value.slice (some ⟨gq,0,none⟩) RR c1).ownBlock=some k:=fun k hk h=>hk (by injection h with h;exact h.symm)
       have o4:=f3 gq rfl;have o3:=aA b9.out gq rfl;have e6:=f5.out.next g1 (fun k hk=>hF k (by omega));have g2:=(g1.block w1.heap.size (ae l5.out) (hF _ (by omega))).trans l5.out;have o5:=c6.out.but g1 (fun g hg=>hF g (fun h=>by have h1:=aA c6.out g hg;have h2:=i7 gq rfl;omega));have z9:=aA a5 gg rfl
       have s6:gg≠w1.heap.size:=fun h=>by
        rcases n8 with h'|h'
        ·have h2:gq=gg:=Option.some.inj h';omega
        ·omega
       clear b0 b1 b2 e0 e1 e2 r0 r1 r2 f0 f1 f2;obtain⟨b0,b1,b2⟩:=fw g2;obtain⟨e0,e1,e2⟩:=jm g2;obtain⟨r0,r1,r2⟩:=fw e6.res;obtain⟨f0,f1,f2⟩:=jm e6.res;have f9:But (· =w1.heap.size) w7 (w7.setCell ⟨w1.heap.size,1,none⟩ (.slice (some ⟨gg,0,none⟩) (RR+1) a4)):=But.setB w7 w1.heap.size 1 (.slice (some ⟨gg,0,none⟩) (RR+1) a4);have n5:=e6.next f9 (fun k hk h=>by omega);have o6:=o5.but f9 (fun g hg h=>by have:=e9 g hg;omega)
       have n2:BtB (w7.setCell ⟨w1.heap.size,1,none⟩ (.slice (some ⟨gg,0,none⟩) (RR+1) a4)) (w.heap.size+1+1+1+1) (.slice (some ⟨gg,0,none⟩) (st.take RR++ [L]).length a4) (st.take RR++ [L]):=by
        unfold BtB;rw[List.length_append,b5.out,aM,List.map_append];exact ag a5 f9 (fun g hg h=>by simp[Value.ownBlock]at hg;omega)
       have m3:=hid n5;have l6:=hid o6;have m1:=hid n2;have t9:=e6.gt;have t5:=ae g2;clear e6 g2 o5 g1 a6 a5 n8 f9 n5 o6 n2 hF;go_wp2_with fail;refine lG Tryz.results174 rfl rfl rfl m3.out.res (fun w9 h9 h9b=> ?_);have s4:(st.take RR++ [L]).length=RR+1:=by rw[List.length_append,b5.out];rfl
       refine⟨m3.out.but.next h9b (fun k hk h=>by omega),Or.inr ⟨st.take RR++ [L],lo,some ⟨gg,0,none⟩,a4,a2,c2,by rw[f7.out,if_neg a8.out],by rw[s4],?_,?_⟩⟩
       ·exact BtB.but (World.ownsRow.mono m1.out (by omega)) h9b (fun g hg h=>by have:=aA m1.out g hg;omega)
       ·exact BtB.but (World.ownsRow.mono l6.out (by omega)) h9b (fun g hg h=>by have:=aA l6.out g hg;omega)
end
end Go.Proofs.YtpfkkmacakjmbaaGreatDoor
