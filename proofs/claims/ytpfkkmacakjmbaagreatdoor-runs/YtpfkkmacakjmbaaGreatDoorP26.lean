import Derived.Test.YtpfkkmacakjmbaaGreatDoorP20
set_option maxRecDepth 100000
set_option maxHeartbeats 6400000
set_option linter.unusedSimpArgs false
set_option linter.unusedVariables false
namespace Go.Proofs.YtpfkkmacakjmbaaGreatDoor
section
open Go Go.RowKit Sp
theorem nH {w:World} {base:Nat} {v:Value} {l:List UInt8} (h:BtB w base v l):(convert 112 9 v).run Tryz.prog w= .ok (.string ⟨l.toArray⟩) w:=by
 obtain⟨ao,cap,rfl⟩:=au h
 cases ao with
 |none=>
  have hm:l.length=0:=by
   rcases Nat.eq_zero_or_pos l.length with h'|h'
   ·exact h'
   ·obtain⟨g,hg,_⟩:=aG h h'
    cases hg
  have a1:l=[]:=List.length_eq_zero_iff.1 hm;subst a1;have a2:Tryz.prog.underlying 112=some (.slice 5):=by kernel_rfl
  have a3:Tryz.prog.underlying 9=some .string:=by kernel_rfl
  have a4:Tryz.prog.underlying 5=some (.int .u8):=by kernel_rfl
  have h9:=run_convert_bytes_string (P:=Tryz.prog) w 112 9 5 none 0 cap a2 a4 a3;refine h9.trans ?_;simp[Conv.bytesToString]
  rfl
 |some ad=>
  refine(?_ :(convert 112 9 (.slice (some ad) l.length cap)).run Tryz.prog w=_);refine run_convert_bytes_back w 112 9 5 ad cap l (by kernel_rfl) (by kernel_rfl) (by kernel_rfl) ?_;intro j hj;obtain⟨g,hg,a5,a6,hc⟩:=aG h (by omega);have a0:=Option.some.inj hg;rw[a0];have h3:=hc j _ (d6 hj);have e:(⟨g,0,none⟩:Addr).add j=⟨g,j,none⟩:=by simp[Addr.add];exact fun h=>h.symm
  rw[e,h3];simp[List.getD,hj]
end
section
open Go Go.RowKit Sp
attribute [local go_sem ↓] Go.wp_at_zero Go.wp_at_succ
def xsV (kn:Bool) (vs vl:Value):Value:= .agg #[.bool kn,vs,vl]
theorem md (bx:Nat) (kn:Bool) (aa al:Option Addr) (cs cl:Nat) (st lo:List UInt8) (w:World) (hs:BtB w bx (.slice aa st.length cs) st) (hl:BtB w bx (.slice al lo.length cl) lo) (h1:st.length≤1000) (h2:lo.length≤1000):
  Calls Tryz.prog 171 #[xsV kn (.slice aa st.length cs) (.slice al lo.length cl)] w fun en w'=>But (fun _=>False) w w'∧ ∃a1 c1 a2 c2 B2,en= .returned (xsV kn (.slice a1 st.length c1) (.slice a2 lo.length c2))∧BtB w' w.heap.size (.slice a1 st.length c1) st∧BtB w' B2 (.slice a2 lo.length c2) lo∧w.heap.size≤B2∧(∀g,(Value.slice a1 st.length c1).ownBlock=some g→g<B2)∧(Value.slice a1 st.length c1).ownBlock≠none:=by
 unfold xsV;have e3:But (fun _=>False) w ((w.alloc (.cells #[.bool kn,.slice aa st.length cs,.slice al lo.length cl] 117)).alloc (.cells #[.bool false,.slice none 0 0,.slice none 0 0] 117)):=(But.alloc _ _ _).trans (But.alloc _ _ _);have g3:((w.alloc (.cells #[.bool kn,.slice aa st.length cs,.slice al lo.length cl] 117)).alloc (.cells #[.bool false,.slice none 0 0,.slice none 0 0] 117)).heap.size=w.heap.size+1+1:=by simp
 have f2:((w.alloc (.cells #[.bool kn,.slice aa st.length cs,.slice al lo.length cl] 117)).alloc (.cells #[.bool false,.slice none 0 0,.slice none 0 0] 117)).heap[w.heap.size]?=some (.cells #[.bool kn,.slice aa st.length cs,.slice al lo.length cl] 117):=by
  rw[(But.alloc (fun _=>False) (w.alloc (.cells #[.bool kn,.slice aa st.length cs,.slice al lo.length cl] 117)) (.cells #[.bool false,.slice none 0 0,.slice none 0 0] 117)).block w.heap.size (ae (heap_alloc_new w _)) (fun h=>h)];exact heap_alloc_new w _
 have f0:((w.alloc (.cells #[.bool kn,.slice aa st.length cs,.slice al lo.length cl] 117)).alloc (.cells #[.bool false,.slice none 0 0,.slice none 0 0] 117)).heap[w.heap.size+1]?=some (.cells #[.bool false,.slice none 0 0,.slice none 0 0] 117):=aw (by simp) _;have hE:=BtB.empty ((w.alloc (.cells #[.bool kn,.slice aa st.length cs,.slice al lo.length cl] 117)).alloc (.cells #[.bool false,.slice none 0 0,.slice none 0 0] 117));have b0:But (fun _=>False) ((w.alloc (.cells #[.bool kn,.slice aa st.length cs,.slice al lo.length cl] 117)).alloc (.cells #[.bool false,.slice none 0 0,.slice none 0 0] 117)) (((w.alloc (.cells #[.bool kn,.slice aa st.length cs,.slice al lo.length cl] 117)).alloc (.cells #[.bool false,.slice none 0 0,.slice none 0 0] 117)).alloc (.cells #[] 5)):=But.alloc _ _ _
 rw[g3]at hE;have f8:=(hs.but e3 (fun _ _ h=>h)).but b0 (fun _ _ h=>h);have f5:=(hl.but e3 (fun _ _ h=>h)).but b0 (fun _ _ h=>h);have g4:((w.alloc (.cells #[.bool kn,.slice aa st.length cs,.slice al lo.length cl] 117)).alloc (.cells #[.bool false,.slice none 0 0,.slice none 0 0] 117)).alloc (.cells #[] 5) |>.heap.size |> (w.heap.size+1+1≤ ·):=by simp
 have HN:Hid ([]++st=st):=hid (by simp);have e4:=hid (b0.kp f2);have e5:=hid ((b0.block (w.heap.size+1) (ae f0) (fun h=>h)).trans f0);have h4:=e3.trans b0;clear f2 f0 e3 b0 g3
 go_in
 go_wp2_with (at_builtin;refine dT rfl _ _ rfl (w.heap.size+1+1) bx _ _ [] st st HN rfl rfl hE f8 (by omega) g4 ?_);intro a1 c1 w3 h3 e1 h8;have b9:(Value.slice (some ⟨w.heap.size+1+1,0,none⟩) 0 0).ownBlock=some (w.heap.size+1+1):=rfl
 have f7:(Value.slice a1 st.length c1).ownBlock≠none:=fun h=>by
  rcases h8 with h'|h'<;>(rw[h]at h';cases h')
 have g6:=hid f7;clear f7;have hF: ∀k,k<w.heap.size+1+1→ ¬(Value.slice (some ⟨w.heap.size+1+1,0,none⟩) 0 0).ownBlock=some k:=fun k hk h=>by rw[b9]at h;injection h with h;omega
 have a8:=(e1.block w.heap.size (ae e4.out) (hF _ (by omega))).trans e4.out;have a9:=(e1.block (w.heap.size+1) (ae e5.out) (hF _ (by omega))).trans e5.out;have f6:=f5.but e1 (fun g hg=>hF g (by have:=aU hl g hg;omega));have b3:But (fun _=>False) w w3:=h4.next e1 (fun k hk h=>hF k (by omega) h);have a4:=aU h3;have e0:=ay h3;have i3:=b3.size;have f4:=ae a9;have f3:w.heap.size<w3.heap.size:=by omega
 have h6:=BtB.empty w3;have e2:But (fun _=>False) w3 (w3.alloc (.cells #[] 5)):=But.alloc _ _ _;have h7:=f6.but e2 (fun _ _ h=>h);have i0:=h3.but e2 (fun _ _ h=>h);have i2:w3.heap.size≤(w3.alloc (.cells #[] 5)).heap.size:=e2.size;have hq:=ce2 a8;have g5:Hid ([]++lo=lo):=hid (by simp);have a5:=hid a8;have a6:=hid a9;have HF:=hid hF;clear a8 a9 hF b9 e4 e5 f8 f5 hE g4 h3 f6;go_wp2_with (at_builtin;refine dT rfl _ _ rfl w3.heap.size bx _ _ [] lo lo g5 rfl rfl h6 h7 (by omega) i2 ?_);intro a2 c2 w5 h5 f1 h9;have a3:(Value.slice (some ⟨w3.heap.size,0,none⟩) 0 0).ownBlock=some w3.heap.size:=rfl;have b4: ∀k,k<w3.heap.size→ ¬(Value.slice (some ⟨w3.heap.size,0,none⟩) 0 0).ownBlock=some k:=fun k hk h=>by rw[a3]at h;injection h with h;omega
 have a7:But (fun k=>(Value.slice (some ⟨w3.heap.size,0,none⟩) 0 0).ownBlock=some k) w3 w5:=(e2.mono (fun _ _ h=>h.elim)).trans f1;have b5:=(a7.block w.heap.size (ae a5.out) (b4 _ (by omega))).trans a5.out;have a0:=(a7.block (w.heap.size+1) (ae a6.out) (b4 _ (by omega))).trans a6.out;have i1:=i0.but f1 (fun g hg=>b4 g (a4 g hg));have e8:But (fun _=>False) w w5:=b3.next a7 (fun k hk h=>b4 k (by omega) h);have e7:=ay h5;have q0:=ce0 b5;have y0:w5.cell? ⟨w.heap.size+1,0,none⟩=some (.bool false):=by rw[cell_of_row w5 (w.heap.size+1) 0 _ _ (0,0) a0];rfl
 have y1:w5.cell? ⟨w.heap.size+1,1,none⟩=some (.slice none 0 0):=by rw[cell_of_row w5 (w.heap.size+1) 1 _ _ (0,0) a0];rfl
 have y2:w5.cell? ⟨w.heap.size+1,2,none⟩=some (.slice none 0 0):=by rw[cell_of_row w5 (w.heap.size+1) 2 _ _ (0,0) a0];rfl
 have g0:w5.frozen? ⟨w.heap.size+1,0,none⟩=false:=frozen_of_row w5 (w.heap.size+1) 0 _ _ a0;have g1:w5.frozen? ⟨w.heap.size+1,1,none⟩=false:=frozen_of_row w5 (w.heap.size+1) 1 _ _ a0;have g2:w5.frozen? ⟨w.heap.size+1,2,none⟩=false:=frozen_of_row w5 (w.heap.size+1) 2 _ _ a0;have e6:=hid a0;clear b5 a0 a5 a6 hq a3 b4;go_wp2_with fail;have g7:=heap_setCell_same w5 (w.heap.size+1) 0 _ _ (.bool kn) e6.out;have h0:=heap_setCell_same _ (w.heap.size+1) 1 _ _ (.slice a1 st.length c1) g7;have b1:=heap_setCell_same _ (w.heap.size+1) 2 _ _ (.slice a2 lo.length c2) h0;have b2:=((But.setB w5 (w.heap.size+1) 0 (.bool kn)).trans (But.setB _ (w.heap.size+1) 1 (.slice a1 st.length c1))).trans (But.setB _ (w.heap.size+1) 2 (.slice a2 lo.length c2))
 revert b1 b2;generalize (((w5.setCell ⟨w.heap.size+1,0,none⟩ (.bool kn)).setCell ⟨w.heap.size+1,1,none⟩ (.slice a1 st.length c1)).setCell ⟨w.heap.size+1,2,none⟩ (.slice a2 lo.length c2))=w6;intro b1 b2;have r0:w6.cell? ⟨w.heap.size+1,0,none⟩=some (.bool kn):=by rw[cell_of_row w6 (w.heap.size+1) 0 _ _ (0,0) b1];rfl
 have r1:w6.cell? ⟨w.heap.size+1,1,none⟩=some (.slice a1 st.length c1):=by rw[cell_of_row w6 (w.heap.size+1) 1 _ _ (0,0) b1];rfl
 have r2:w6.cell? ⟨w.heap.size+1,2,none⟩=some (.slice a2 lo.length c2):=by rw[cell_of_row w6 (w.heap.size+1) 2 _ _ (0,0) b1];rfl
 exact bodyPost_ret (v:= .agg #[.bool kn,.slice a1 st.length c1,.slice a2 lo.length c2]) (by simp[results,Tryz.results171,go_sem,r0,r1,r2]) rfl
  ⟨e8.next b2 (fun k hk h=>by omega),a1,c1,a2,c2,w3.heap.size,rfl,BtB.but (World.ownsRow.mono i1 (by omega)) b2 (fun g hg h=>by have:=e0 g hg;omega),BtB.but h5 b2 (fun g hg h=>by have:=e7 g hg;omega),by omega,a4,g6.out⟩
theorem o9 (aa al:Option Addr) (cs cl:Nat) (st lo:List UInt8) (w:World) (hs:BtB w 0 (.slice aa st.length cs) st) (hl:BtB w 0 (.slice al lo.length cl) lo):
  Calls Tryz.prog 173 #[.slice aa st.length cs,.slice al lo.length cl] w fun en w'=>en= .returned (.bool (decide (st=lo)))∧w'=w:=by
 have a0:=nH hs;have a1:=nH hl
 go_in
 go_wp2_with fail;exact bodyPost_ret (v:= .bool (decide (st=lo))) (by simp[results,Tryz.results173,go_sem];rw[Bool.eq_iff_iff];simp) rfl ⟨rfl,rfl⟩
def ig (cs:List bB) (st asked:List UInt8):Bool:=(List.range asked.length).all fun i=>d7 cs (st.getD (st.length-asked.length+i) 0) (asked.getD i 0)
def qf (cs:List bB) (ms:List Sig) (x:XIt) (ans:UInt8) (st lo:List UInt8):Option (List UInt8×List UInt8):=
 if st.length<(aE cs ms x.op x.cls x.num ans).length∨ig cs st (aE cs ms x.op x.cls x.num ans)=false then none else
 if x.op.toNat=115∧ ¬x.num<lo.length then none else
 if x.op.toNat=108∧(aI cs ms x.op x.cls x.num (if x.op.toNat=115 then lo.set x.num (st.getD (st.length-(aE cs ms x.op x.cls x.num ans).length) 0)else lo)).toNat=45 then none else
 some (st.take (st.length-(aE cs ms x.op x.cls x.num ans).length)++(if(aI cs ms x.op x.cls x.num (if x.op.toNat=115 then lo.set x.num (st.getD (st.length-(aE cs ms x.op x.cls x.num ans).length) 0)else lo)).toNat=0 then []else [aI cs ms x.op x.cls x.num (if x.op.toNat=115 then lo.set x.num (st.getD (st.length-(aE cs ms x.op x.cls x.num ans).length) 0)else lo)]),
  if x.op.toNat=115 then lo.set x.num (st.getD (st.length-(aE cs ms x.op x.cls x.num ans).length) 0)else lo)
structure BhW (w wx:World) (c r:UInt8) (m:Nat) (vl vi:Value) (pl nu:Nat) (op ic:UInt8) (pa:Option Addr) (pn pc:Nat):Prop where
 but:But (fun _=>False) w wx
 bod:wx.heap[w.heap.size]?=some (.cells #[.int .u8 c.toNat,.int .i64 m,.int .u8 r.toNat,vl,vi] 115)
 item:wx.heap[w.heap.size+1]?=some (.cells #[.int .i64 pl,.int .u8 op.toNat,.int .u8 ic.toNat,.int .i64 nu,.slice pa pn pc] 219)
 res:wx.heap[w.heap.size+1+1+1]?=some (.cells #[.bool false,.slice none 0 0,.slice none 0 0] 117)
section
variable {w w1 w2:World} {c r:UInt8} {m:Nat} {vl vi:Value} {pl nu:Nat} {op ic:UInt8} {pa:Option Addr} {pn pc:Nat}
theorem BhW.next {F:Nat→Prop} (h:BhW w w1 c r m vl vi pl nu op ic pa pn pc) (hb:But F w1 w2) (hF: ∀k,k<w.heap.size+4→ ¬F k):BhW w w2 c r m vl vi pl nu op ic pa pn pc:=
 ⟨h.but.next hb (fun k hk hf=>hF k (by omega) hf),(hb.block _ (ae h.bod) (hF _ (by omega))).trans h.bod,(hb.block _ (ae h.item) (hF _ (by omega))).trans h.item,(hb.block _ (ae h.res) (hF _ (by omega))).trans h.res⟩
theorem BhW.gt (h:BhW w w1 c r m vl vi pl nu op ic pa pn pc):w.heap.size+3<w1.heap.size:=ae h.res
end
theorem ji {w:World} {g t:Nat} {x0 x1 x2:Value} (h:w.heap[g]?=some (.cells #[x0,x1,x2] t)):w.frozen? ⟨g,0,none⟩=false∧w.frozen? ⟨g,1,none⟩=false∧w.frozen? ⟨g,2,none⟩=false:=
 ⟨frozen_of_row w g 0 _ _ h,frozen_of_row w g 1 _ _ h,frozen_of_row w g 2 _ _ h⟩
def mD (w:World) (g:Nat) (x0 x1 x2:Value):World:=((w.setCell ⟨g,0,none⟩ x0).setCell ⟨g,1,none⟩ x1).setCell ⟨g,2,none⟩ x2
theorem dO {w:World} {g t:Nat} {a0 a1 a2:Value} (h:w.heap[g]?=some (.cells #[a0,a1,a2] t)) (x0 x1 x2:Value):(mD w g x0 x1 x2).heap[g]?=some (.cells #[x0,x1,x2] t):=by
 have h1:=heap_setCell_same w g 0 _ _ x0 h;have h2:=heap_setCell_same _ g 1 _ _ x1 h1;exact heap_setCell_same _ g 2 _ _ x2 h2
theorem ew (w:World) (g:Nat) (x0 x1 x2:Value):But (· =g) w (mD w g x0 x1 x2):=((But.setB w g 0 x0).trans (But.setB _ g 1 x1)).trans (But.setB _ g 2 x2)
theorem Bx {fn:Func} {R:Ending→World→Prop} {a:Act} {w:World} {c f g:Nat} {a0 a1 a2 x0 x1 x2:Value} {e:Bool} (hf:fn.results=#[.cell c 117,.tmp f]) (hd:a.defers=[]) (hc:a.tmps.getD c undef= .pointer (some ⟨g,0,none⟩)) (he:a.tmps.getD f undef= .bool e) (h:w.heap[g]?=some (.cells #[a0,a1,a2] 117)) (hR: ∀w9,w9.heap[g]?=some (.cells #[x0,x1,x2] 117)→But (· =g) w w9→R (.returned (.tuple #[.agg #[x0,x1,x2],.bool e])) w9):bodyPost Tryz.prog fn R .ret a (((w.setCell ⟨g,0,none⟩ x0).setCell ⟨g,1,none⟩ x1).setCell ⟨g,2,none⟩ x2):=by
 have h9:=dO h x0 x1 x2;have r0:=ce0 h9;have r1:=ce1 h9;have r2:=ce2 h9;refine bodyPost_ret (v:= .tuple #[.agg #[x0,x1,x2],.bool e]) ?_ hd (hR _ h9 (ew w g x0 x1 x2));have a3:a.tmps[c]?.getD undef= .pointer (some ⟨g,0,none⟩):=by simpa using hc
 have a4:a.tmps[f]?.getD undef= .bool e:=by simpa using he
 unfold mD at r0 r1 r2;simp[results,hf,a3,a4,go_sem,r0,r1,r2]
theorem BtB.pre {w:World} {base g cap n:Nat} {l:List UInt8} (h:BtB w base (.slice (some ⟨g,0,none⟩) l.length cap) l) (hn:n≤l.length):BtB w base (.slice (some ⟨g,0,none⟩) (l.take n).length cap) (l.take n):=by
 have hl:(l.take n).length=n:=by simp;omega
 rcases h.2 with⟨h1,_⟩ | ⟨g',cap',cur,h1,h2,h3,h4,h5,h6,h7⟩
 ·cases h1
 ·have e1:cap=cap':=congrArg (fun v=>match v with|Value.slice _ _ c=>c|_=>0) h1
  have e2:g=g':=by
   have:=congrArg (fun v=>match v with|Value.slice (some a) _ _=>a.block|_=>0) h1;exact this
  subst e1 e2;refine⟨by simp[bu],Or.inr ⟨g,cap,cur,by rw[hl],h2,h3,by rw[hl];omega,h5,h6,?_⟩⟩;rw[hl];simp only[Nat.mul_one]at h7⊢;have:cur.toList.take n=(cur.toList.take l.length).take n:=by rw[List.take_take,Nat.min_eq_left hn]
  rw[this,h7];simp[bu,List.map_take]
theorem BtB.cap {w:World} {base cap:Nat} {ao:Option Addr} {l:List UInt8} (h:BtB w base (.slice ao l.length cap) l):l.length≤cap:=by
 rcases h.2 with⟨h1,h2⟩ | ⟨g',cap',cur,h1,_,_,h4,_⟩
 ·omega
 ·have e1:cap=cap':=congrArg (fun v=>match v with|Value.slice _ _ c=>c|_=>0) h1;rw[e1];exact h4
theorem BtB.put {w:World} {base g cap k:Nat} {l:List UInt8} (h:BtB w base (.slice (some ⟨g,0,none⟩) l.length cap) l) (c:UInt8):BtB (w.setCell ⟨g,k,none⟩ (.int .u8 c.toNat)) base (.slice (some ⟨g,0,none⟩) l.length cap) (l.set k c):=by
 rcases h.2 with⟨h1,_⟩ | ⟨g',cap',cur,h1,h2,h3,h4,h5,h6,h7⟩
 ·cases h1
 ·have e1:cap=cap':=congrArg (fun v=>match v with|Value.slice _ _ c=>c|_=>0) h1;have e2:g=g':=congrArg (fun v=>match v with|Value.slice (some a) _ _=>a.block|_=>0) h1;subst e1 e2;refine⟨by simp[bu],Or.inr ⟨g,cap,cur.setIfInBounds k (.int .u8 c.toNat),by simp,h2,heap_setCell_same w g k _ _ _ h3,by simpa using h4,h5,by simpa using h6,?_⟩⟩;simp only[Nat.mul_one,List.length_set]at h7⊢;rw[Array.toList_setIfInBounds,List.take_set,h7];simp[bu,List.map_set]
theorem BtB.row {w:World} {base g cap:Nat} {n:Nat} {l:List UInt8} (h:BtB w base (.slice (some ⟨g,0,none⟩) n cap) l): ∃cur,w.heap[g]?=some (.cells cur 5):=by
 rcases h.2 with⟨h1,_⟩ | ⟨g',cap',cur,h1,h2,h3,_⟩
 ·cases h1
 ·have e2:g=g':=congrArg (fun v=>match v with|Value.slice (some a) _ _=>a.block|_=>0) h1;subst e2;exact⟨cur,h3⟩
theorem th (cs:List bB) (ms:List Sig) (c k:UInt8) (n:Nat) (ans:UInt8):(aE cs ms c k n ans).length≤2:=by
 unfold aE
 repeat' split
 all_goals simp
theorem rA (b:Nat) (cs:List bB) (ms:List Sig) (c r:UInt8) (m:Nat) (vl vi:Value) (x:XIt) (aa al:Option Addr) (ca cl:Nat) (st lo:List UInt8) (w:World) (hn:cs.length≤100) (hm:ms.length≤100) (hT:TxC w b cs) (hM:TxM w b ms)
  (hvl:vl.oneCell'=true) (hvi:vi.oneCell'=true) (hs:BtB w 0 (.slice aa st.length ca) st) (hl:BtB w 0 (.slice al lo.length cl) lo) (h1:st.length≤200) (h2:lo.length≤200):
  Calls Tryz.prog 174 #[.pointer (some ⟨b,0,none⟩),hdV c m r vl vi,itV x,xsV true (.slice aa st.length ca) (.slice al lo.length cl)] w fun en w'=>But (fun _=>False) w w'∧
   ((qf cs ms x r st lo=none∧en= .returned (.tuple #[xsV false (.slice none 0 0) (.slice none 0 0),.bool false]))∨
    (∃st' lo' a1 c1 a2 c2,qf cs ms x r st lo=some (st',lo')∧en= .returned (.tuple #[xsV true (.slice a1 (List.length st') c1) (.slice a2 (List.length lo') c2),.bool true])∧BtB w' w.heap.size (.slice a1 st'.length c1) st'∧BtB w' w.heap.size (.slice a2 lo'.length c2) lo')):=by
 obtain⟨pl,op,ic,nu,pa,pn,pc⟩:=x;obtain⟨t0,y9,z0,z1,z2⟩:=info_parts kQ;unfold hdV itV xsV
 have p6:BhW w ((((w.alloc (.cells #[.int .u8 c.toNat,.int .i64 m,.int .u8 r.toNat,vl,vi] 115)).alloc (.cells #[.int .i64 pl,.int .u8 op.toNat,.int .u8 ic.toNat,.int .i64 nu,.slice pa pn pc] 219)).alloc (.cells #[.bool true,.slice aa st.length ca,.slice al lo.length cl] 117)).alloc (.cells #[.bool false,.slice none 0 0,.slice none 0 0] 117)) c r m vl vi pl nu op ic pa pn pc:=by
  refine⟨(((But.alloc _ _ _).trans (But.alloc _ _ _)).trans (But.alloc _ _ _)).trans (But.alloc _ _ _),?_,?_,aw (by simp) _⟩
  ·rw[Below.heap_alloc _ _ _ (by simp;omega),Below.heap_alloc _ _ _ (by first| (simp;done) | (simp;omega)),Below.heap_alloc _ _ _ (by first| (simp;done) | (simp;omega))];exact heap_alloc_new w _
  ·rw[Below.heap_alloc _ _ _ (by simp),Below.heap_alloc _ _ _ (by simp)];exact aw (by simp) _
 have y6:=hs.but p6.but (fun _ _ h=>h);have y3:=hl.but p6.but (fun _ _ h=>h);have x2:=hid p6;have r5:=hid (md 0 true aa al ca cl st lo _ y6 y3 (by omega) (by omega));have z4:((((w.alloc (.cells #[.int .u8 c.toNat,.int .i64 m,.int .u8 r.toNat,vl,vi] 115)).alloc (.cells #[.int .i64 pl,.int .u8 op.toNat,.int .u8 ic.toNat,.int .i64 nu,.slice pa pn pc] 219)).alloc (.cells #[.bool true,.slice aa st.length ca,.slice al lo.length cl] 117)).alloc (.cells #[.bool false,.slice none 0 0,.slice none 0 0] 117)).heap.size=w.heap.size+1+1+1+1:=by simp
 have x5:=hid z4;clear p6 y6 y3 z4;unfold xsV at r5
 go_in
 go_wp2_with fail;refine r5.out.mono ?_;rintro en w1 ⟨x7,a1,c1,a2,c2,G2,rfl,p1,v6,z9,j1,w0⟩;have n4:=x2.out.next x7 (fun _ _ h=>h);rw[x5.out]at p1 z9
 obtain⟨gq,B6⟩: ∃gq,a1=some ⟨gq,0,none⟩:=by
  rcases p1.2 with⟨h,_⟩ | ⟨g,cap,cur,h,_⟩
  ·rw[h]at w0;exact absurd rfl w0
  ·exact⟨g,congrArg (fun v=>match v with|Value.slice a _ _=>a|_=>none) h⟩
 subst B6;clear w0;clear r5 x2 x5 x7;have B8:=n4.gt;have f8:But (fun _=>False) w1 (w1.alloc (.cells #[.bool true,.slice (some ⟨gq,0,none⟩) st.length c1,.slice a2 lo.length c2] 117)):=But.alloc _ _ _;have q3:=heap_alloc_new w1 (.cells #[.bool true,.slice (some ⟨gq,0,none⟩) st.length c1,.slice a2 lo.length c2] 117);have k3:=n4.next f8 (fun _ _ h=>h);have q9:=p1.but f8 (fun _ _ h=>h);have q7:=v6.but f8 (fun _ _ h=>h);have f5:=aU p1;have f4:=aU v6;obtain⟨i0,i1,i2,i3,i4⟩:=bC n4.item;obtain⟨d0,d1,d2,d3,d4⟩:=bC n4.bod;have l0:w.heap.size<w1.heap.size:=by omega
 have l1:w.heap.size+1<w1.heap.size:=by omega
 clear n4 p1 v6;go_wp2_with fail;revert f8 q3 k3 q9 q7;generalize (w1.alloc (.cells #[.bool true,.slice (some ⟨gq,0,none⟩) st.length c1,.slice a2 lo.length c2] 117))=w2;intro f8 q3 k3 q9 q7;have s0:=hid (ny (ap:=pa) (np:=pn) (cp:=pc) b cs ms pl nu op ic r w2 hn hm (hT.but k3.but) (hM.but k3.but));have B1:=th cs ms op ic nu r
 have w6:Hid (∀T,aE cs ms op ic nu r=T→qf cs ms ⟨pl,op,ic,nu,pa,pn,pc⟩ r st lo=
   if st.length<T.length∨ig cs st T=false then none else
   if op.toNat=115∧ ¬nu<lo.length then none else
   if op.toNat=108∧(aI cs ms op ic nu (if op.toNat=115 then lo.set nu (st.getD (st.length-T.length) 0)else lo)).toNat=45 then none else
   some (st.take (st.length-T.length)++(if(aI cs ms op ic nu (if op.toNat=115 then lo.set nu (st.getD (st.length-T.length) 0)else lo)).toNat=0 then []else [aI cs ms op ic nu (if op.toNat=115 then lo.set nu (st.getD (st.length-T.length) 0)else lo)]),
    if op.toNat=115 then lo.set nu (st.getD (st.length-T.length) 0)else lo)):=hid (fun T h=>by subst h;rfl)
 obtain⟨T,p5⟩: ∃T,aE cs ms op ic nu r=T:=⟨_,rfl⟩;have i5:=hid (w6.out T p5);have h5:op.toNat=115→0<T.length:=fun h=>by rw[←p5];simp[aE,h]
 have m3:=hid h5;clear h5;rw[p5]at s0 B1;clear w6 p5;refine s0.out.mono ?_;rintro en w3 ⟨n1,v3,rfl,x6⟩;obtain⟨a3,c3,C5⟩:=au x6;subst C5;clear s0;have n5:=k3.next n1 (fun _ _ h=>h);have C4:=q9.but n1 (fun _ _ h=>h);have C1:=q7.but n1 (fun _ _ h=>h);have q4:=n1.kp q3;have v0:=ae q4;have C6:=n1.size;obtain⟨b0,b1,b2⟩:=eu q4;obtain⟨i0,i1,i2,i3,i4⟩:=bC n5.item;obtain⟨r0,r1,r2⟩:=eu n5.res;obtain⟨f0,f1,f2⟩:=ji n5.res;have s1:=hid n5;have z7:=hid q4;clear k3 q9 q7 q3 f8 q4 n5 d0 d1 d2 d3 d4
 by_cases hlen:st.length<T.length
 ·have C3:(st.length:Int)-(T.length:Int)<0:=by omega
  have hN:qf cs ms ⟨pl,op,ic,nu,pa,pn,pc⟩ r st lo=none:=by rw[i5.out,if_pos (Or.inl hlen)]
  have HN:=hid hN;clear hN i5;go_wp2_with fail;refine Bx Tryz.results174 rfl rfl rfl s1.out.res (fun w9 h9 h9b=> ?_);exact⟨s1.out.but.next h9b (fun k hk h=>by omega),Or.inl ⟨HN.out,rfl⟩⟩
 ·obtain⟨RR,t3⟩: ∃RR,st.length-T.length=RR:=⟨_,rfl⟩;rw[t3]at i5;have y5:(st.length:Int)-(T.length:Int)=(RR:Int):=by omega
  have D4:RR+T.length≤st.length:=by omega
  have x0:=hid t3;have C8: ¬(RR:Int)<0:=by omega
  clear t3;go_wp2_with fail
  go_loopg [13] T.length (fun mm is wr=> ∃k:Nat,is= .int .i64 k∧k≤T.length∧k+mm≤T.length∧T.length≤k+mm∧But (fun _=>False) w3 wr∧Hid (∀i,i<k→d7 cs (st.getD (RR+i) 0) (T.getD i 0)=true))
  case atStart=>exact⟨0,rfl,by omega,by omega,by omega,But.refl _ _,fun i hi=>absurd hi (by omega)⟩
  case round=>
   obtain⟨k,rfl,D5,B9,D6,j0,HA⟩:=hrel;clear B9;have n7:=s1.out.next j0 (fun _ _ h=>h);have l3:=C4.but j0 (fun _ _ h=>h);have j5:=C1.but j0 (fun _ _ h=>h);have s3:=x6.but j0 (fun _ _ h=>h);have q5:=(j0.block w1.heap.size v0 (fun h=>h)).trans z7.out;have D7:=j0.size;have f3:=ae q5;clear b0 b1 b2 i0 i1 i2 i3 i4 r0 r1 r2 f0 f1 f2;obtain⟨b0,b1,b2⟩:=eu q5;obtain⟨i0,i1,i2,i3,i4⟩:=bC n7.item;obtain⟨r0,r1,r2⟩:=eu n7.res;obtain⟨f0,f1,f2⟩:=ji n7.res;have e3:=hid n7;have p3:=hid q5;clear n7 q5
   by_cases hlt:k<T.length
   ·have C0:(k:Int)<(T.length:Int):=by omega
    have A0:RR+k<st.length:=by omega
    obtain⟨gs,q6,j4,_,o1⟩:=aG l3 (by omega);obtain⟨ga,B2,t5,_,y0⟩:=aG s3 (by omega);have q1:=o1 _ _ (d6 A0);have q2:=y0 _ _ (d6 hlt);have C9:((RR+k:Nat):Int)<(st.length:Int):=by omega
    have j3:gs=gq:=by have:=Option.some.inj q6;injection this with h;exact h.symm
    subst j3 B2;have h0:=hid (fun(h:d7 cs (st.getD (RR+k) 0) (T.getD k 0)=true)=>(fun i (hi:i<k+1)=>if hik:i=k then(by rw[hik];exact h)else HA.out i (by omega): ∀i,i<k+1→d7 cs (st.getD (RR+i) 0) (T.getD i 0)=true))
    have g7:=hid (fun(h:d7 cs (st.getD (RR+k) 0) (T.getD k 0)=false)=>(show ig cs st T=false from by
     unfold ig;rw[List.all_eq_false];exact⟨k,List.mem_range.2 hlt,by rw[x0.out,h];simp⟩))
    clear o1 y0 HA;revert q1 q2 h0 g7;generalize st.getD (RR+k) 0=y;generalize T.getD k 0=z;intro q1 q2 h0 g7;go_wp2_with fail;have h4:But (fun _=>False) wr wr.drew:=But.drew _ _;have x1:=hid (sU b cs y z wr.drew hn ((hT.but e3.out.but).but h4));have D0:(RR:Int)+(k:Int)<(st.length:Int):=by omega
    have D1:(0:Int)≤(RR:Int)+(k:Int):=by omega
    have D2:((RR:Int)+(k:Int)).toNat=RR+k:=by omega
    have D3:IntKind.i64.wrap ((RR:Int)+(k:Int))=(RR:Int)+(k:Int):=bH _ (by omega) (by omega);refine az (But (fun _=>False) wr) 14 (by kernel_rfl) ?_
    iterate 12 (refine aB (v:=?_) rfl (by kernel_rfl) (fun _ _ _ h=>h) rfl h4 ?_ ?_;rotate_left;(focus (intro wS h;have q0:=(h.kc b1 f3);have q1:=(h.kc q1 j4);have q2:=(h.kc q2 t5);clear h;go_simp;try rfl));dsimp only[Act.put];try simp only[aR])
    refine ag rfl (by kernel_rfl) ?_;intro KS hKS;go_simp;refine x1.out.mono ?_;rintro en wx ⟨rfl,z3⟩;rw[z3];clear z3 wx x1;refine hKS.out _ _ (fun _=>h4) ?_;clear hKS KS;refine ag rfl (by kernel_rfl) ?_;intro KS hKS;go_simp;refine hKS.out _ _ (fun _=>h4) ?_;clear hKS KS;refine aD rfl (by kernel_rfl) ?_;have k9:=e3.out.next h4 (fun _ _ h=>h);have s4:=j0.trans h4;clear b0 b1 b2 i0 i1 i2 i3 i4 r0 r1 r2 f0 f1 f2 q1 q2;revert k9 s4;generalize wr.drew=wd;intro k9 s4;obtain⟨r0,r1,r2⟩:=eu k9.res;obtain⟨f0,f1,f2⟩:=ji k9.res;revert h0 g7
    cases d7 cs y z with
    |true=>
     intro h0 g7;have r4:=hid (h0.out rfl);clear h0 g7;go_wp2_with fail
     go_roundg (T.length-(k+1))
     case measure=>omega
     case rel=>exact⟨k+1,by simp,by omega,by omega,by omega,s4,r4.out⟩
    |false=>
     intro h0 g7;have hN:qf cs ms ⟨pl,op,ic,nu,pa,pn,pc⟩ r st lo=none:=by rw[i5.out,if_pos (Or.inr (g7.out rfl))]
     have HN:=hid hN;have x3:=hid k9;clear hN i5 h0 g7 k9;go_wp2_with fail;refine Bx Tryz.results174 rfl rfl rfl x3.out.res (fun w9 h9 h9b=> ?_);exact⟨x3.out.but.next h9b (fun k hk h=>by omega),Or.inl ⟨HN.out,rfl⟩⟩
   ·have C0: ¬(k:Int)<(T.length:Int):=by omega
    have n8:ig cs st T=true:=by
     unfold ig;rw[List.all_eq_true];intro i hi;rw[x0.out];exact HA.out i (by have:=List.mem_range.1 hi;omega)
    have f8:=i5.out;rw[if_neg (by rw[n8];simp;omega)]at f8;have k0:=hid f8;clear n8 f8 i5 HA
    by_cases h115:op.toNat=115
    ·have n0:((op.toNat:Int)==115)=true:=by rw[beq_iff_eq];omega
     have x8:=m3.out h115
     by_cases hnu:nu<lo.length
     ·have C2:(nu:Int)<(lo.length:Int):=by omega
      have a0:=k0.out;rw[if_neg (fun h=>h.2 hnu)]at a0;simp only[if_pos h115]at a0;have f6:=hid a0;have h8:=hid h115;clear a0 k0 h115;go_wp2_with fail;obtain⟨gl,B4,B5,t9,hcl⟩:=aG j5 (by omega);subst B4;obtain⟨cur,o2⟩:=BtB.row j5;have fz:=frozen_of_row wr gl nu _ _ o2;have ql:=hcl _ _ (d6 hnu);obtain⟨gs,q6,j4,_,o1⟩:=aG l3 (by omega);have j3:gs=gq:=by have:=Option.some.inj q6;injection this with h;exact h.symm
      subst j3;have A1:RR<st.length:=by omega
      have B0:(RR:Int)<(st.length:Int):=by omega
      have q1:=o1 _ _ (d6 A1);have j7:aI cs ms op ic nu (lo.set nu (st.getD RR 0))=0:=by simp[aI,h8.out]
      have a0:=f6.out;rw[j7]at a0;simp only[show¬(op.toNat=108∧(0:UInt8).toNat=45)from fun h=>by have:=h8.out;omega,if_false,show(0:UInt8).toNat=0 from rfl,if_true,List.append_nil]at a0;have g0:=hid a0;have p4:=hid j7;clear a0 f6 j7 hcl o1 o2 s3 q6;revert q1 g0 p4;generalize st.getD RR 0=y;intro q1 g0 p4;have h4:But (fun _=>False) wr wr.drew:=But.drew _ _;have y4:=f4 gl rfl;have B7:=j1 gs rfl;have y1:G2≤gl:=t9;have y2:gl≠w.heap.size+1:=by omega
      refine az (But (fun _=>False) wr) 9 (by kernel_rfl) ?_
      iterate 9 (refine aB (v:=?_) rfl (by kernel_rfl) (fun _ _ _ h=>h) rfl h4 ?_ ?_;rotate_left;(focus (intro wS h;have Q0:=(h.kc b1 f3);have Q1:=(h.kc b2 f3);have Q2:=(h.kc i3 (ae e3.out.item));have Q3:=(h.kc q1 j4);clear h;go_simp;try rfl));dsimp only[Act.put];try simp only[aR])
      refine ag rfl (by kernel_rfl) ?_;intro KS hKS;go_simp;refine hKS.out _ _ nofun ?_;clear hKS KS;refine ag rfl (by kernel_rfl) ?_;intro KS hKS;go_simp;refine hKS.out _ _ nofun ?_;clear hKS KS;refine aD rfl (by kernel_rfl) ?_;have s9:But (· =gl) wr (wr.setCell ⟨gl,nu,none⟩ (.int .u8 y.toNat)).drew:=(But.setB _ _ _ _).trans (But.drew _ _);have j2:=e3.out.next s9 (fun k hk h=>by omega);have w4:=l3.but s9 (fun g hg h=>by have h2:gs=g:=Option.some.inj hg;omega);have q8:=(j5.put (k:=nu) y).but (But.drew (fun _=>False) _) (fun _ _ h=>h);have b4:=(s9.block w1.heap.size f3 (by omega)).trans p3.out;clear b0 b1 b2 i0 i1 i2 i3 i4 r0 r1 r2 f0 f1 f2 l3 j5 e3 p3 fz ql q1
      revert j2 w4 q8 b4;generalize (wr.setCell ⟨gl,nu,none⟩ (.int .u8 y.toNat)).drew=wq;intro j2 w4 q8 b4;obtain⟨b0,b1,b2⟩:=eu b4;obtain⟨i0,i1,i2,i3,i4⟩:=bC j2.item;have g3:(lo.set nu y).length=lo.length:=by simp
      have v4:=ae b4;have v9:=gD (ap:=pa) (np:=pn) (cp:=pc) b cs ms pl nu op ic (some ⟨gl,0,none⟩) c2 (lo.set nu y) wq hn hm (hT.but j2.but) (hM.but j2.but) (by rw[g3];exact World.ownsRow.mono q8 (Nat.zero_le _));rw[g3,p4.out]at v9;have z8:=hid v9;have m1:=hid g3;have x4:=hid j2;have w8:=hid b4;clear v9 g3 j2 b4 p4;go_wp2_with fail;refine z8.out.mono ?_;rintro en w5 ⟨rfl,g1⟩;have e6:=x4.out.next g1 (fun _ _ h=>h);have a9:=w4.but g1 (fun _ _ h=>h);have g6:=q8.but g1 (fun _ _ h=>h);have e8:=(g1.block w1.heap.size v4 (fun h=>h)).trans w8.out;have v1:=ae e8;clear b0 b1 b2 i0 i1 i2 i3 i4;obtain⟨b0,b1,b2⟩:=eu e8
      obtain⟨e0,e1,e2⟩:=ji e8;obtain⟨i0,i1,i2,i3,i4⟩:=bC e6.item;obtain⟨r0,r1,r2⟩:=eu e6.res;obtain⟨f0,f1,f2⟩:=ji e6.res;have k1:=hid e6;have l4:=hid e8;have m5:((op.toNat:Int)==108)=false:=by rw[beq_eq_false_iff_ne];have:=h8.out;omega
      clear e6 e8 x4 w8 n0;have o0:=a9.cap;have x9:(RR:Int)≤(c1:Int):=by omega
      have a6:But (· =w1.heap.size) w5 (w5.setCell ⟨w1.heap.size,1,none⟩ (.slice (some ⟨gs,0,none⟩) RR c1)):=But.setB w5 w1.heap.size 1 (.slice (some ⟨gs,0,none⟩) RR c1);have h6:=k1.out.next a6 (fun k hk h=>by omega);have e5:(st.take RR).length=RR:=by simp;omega
      have h3:=a9.pre (n:=RR) (by omega);have e4:=h3.but a6 (fun g hg h=>by have:=f5 g hg;omega);have h7:=g6.but a6 (fun g hg h=>by have h2:gl=g:=Option.some.inj hg;omega);have b3:=hid e5;rw[e5]at e4;have b5:=hid e4;have b9:=hid h7;have f7:=hid h6;clear a6 h6 h3 e4 h7 e5;go_wp2_with fail;refine Bx Tryz.results174 rfl rfl rfl f7.out.res (fun w9 h9 h9b=> ?_);refine⟨f7.out.but.next h9b (fun k hk h=>by omega),Or.inr ⟨st.take RR,lo.set nu y,some ⟨gs,0,none⟩,c1,some ⟨gl,0,none⟩,c2,by rw[g0.out,if_neg (fun h=>absurd h.2 (by decide))],by rw[b3.out,m1.out],?_,?_⟩⟩
      ·rw[b3.out];exact BtB.but (World.ownsRow.mono b5.out (by omega)) h9b (fun g hg h=>by have:=ay b5.out g hg;omega)
      ·rw[m1.out];exact BtB.but (World.ownsRow.mono b9.out (by omega)) h9b (fun g hg h=>by have h2:gl=g:=Option.some.inj hg;omega)
     ·have C2: ¬(nu:Int)<(lo.length:Int):=by omega
      have hN:qf cs ms ⟨pl,op,ic,nu,pa,pn,pc⟩ r st lo=none:=by rw[k0.out,if_pos ⟨h115,hnu⟩]
      have HN:=hid hN;clear hN k0 h115;go_wp2_with fail;refine Bx Tryz.results174 rfl rfl rfl e3.out.res (fun w9 h9 h9b=> ?_);exact⟨e3.out.but.next h9b (fun k hk h=>by omega),Or.inl ⟨HN.out,rfl⟩⟩
    ·have n0:=tf op.toNat 115 (by omega);have a0:=k0.out;rw[if_neg (fun h=>h115 h.1)]at a0;simp only[if_neg h115]at a0;have f6:=hid a0;clear a0 k0;go_wp2_with fail;refine(gD (ap:=pa) (np:=pn) (cp:=pc) b cs ms pl nu op ic a2 c2 lo wr hn hm (hT.but e3.out.but) (hM.but e3.out.but) (World.ownsRow.mono j5 (Nat.zero_le _))).mono ?_;rintro en w5 ⟨rfl,g1⟩;obtain⟨L,hL⟩: ∃L,aI cs ms op ic nu lo=L:=⟨_,rfl⟩;rw[hL];rw[hL]at f6;clear hL;have e6:=e3.out.next g1 (fun _ _ h=>h);have a9:=l3.but g1 (fun _ _ h=>h);have g6:=j5.but g1 (fun _ _ h=>h);have e8:=(g1.block w1.heap.size f3 (fun h=>h)).trans p3.out;have v1:=ae e8
     clear b0 b1 b2 i0 i1 i2 i3 i4 r0 r1 r2 f0 f1 f2 l3 j5 s3;obtain⟨b0,b1,b2⟩:=eu e8;obtain⟨e0,e1,e2⟩:=ji e8;obtain⟨i0,i1,i2,i3,i4⟩:=bC e6.item;obtain⟨r0,r1,r2⟩:=eu e6.res;obtain⟨f0,f1,f2⟩:=ji e6.res;have k1:=hid e6;have l4:=hid e8;clear e6 e8 e3 p3
     by_cases h108:op.toNat=108
     ·have m5:((op.toNat:Int)==108)=true:=by rw[beq_iff_eq];omega
      by_cases h45:L.toNat=45
      ·have eL:((L.toNat:Int)==45)=true:=by rw[beq_iff_eq];omega
       have hN:qf cs ms ⟨pl,op,ic,nu,pa,pn,pc⟩ r st lo=none:=by rw[f6.out,if_pos ⟨h108,h45⟩]
       have HN:=hid hN;clear hN f6 h108 h45 h115;go_wp2_with fail;refine Bx Tryz.results174 rfl rfl rfl k1.out.res (fun w9 h9 h9b=> ?_);exact⟨k1.out.but.next h9b (fun k hk h=>by omega),Or.inl ⟨HN.out,rfl⟩⟩
      ·have eL:=tf L.toNat 45 (by omega);have i9:=f6.out;rw[if_neg (fun h=>h45 h.2)]at i9;have g0:=hid i9;clear i9 h108 h45 h115;have o0:=a9.cap;have x9:(RR:Int)≤(c1:Int):=by omega
       have a6:But (· =w1.heap.size) w5 (w5.setCell ⟨w1.heap.size,1,none⟩ (.slice (some ⟨gq,0,none⟩) RR c1)):=But.setB w5 w1.heap.size 1 (.slice (some ⟨gq,0,none⟩) RR c1);have h6:=k1.out.next a6 (fun k hk h=>by omega);have o3:=heap_setCell_same w5 w1.heap.size 1 _ _ (.slice (some ⟨gq,0,none⟩) RR c1) l4.out;have e5:(st.take RR).length=RR:=by simp;omega
       have h3:=a9.pre (n:=RR) (by omega);have e4:=h3.but a6 (fun g hg h=>by have:=f5 g hg;omega);have h7:=g6.but a6 (fun g hg h=>by have:=f4 g hg;omega);have p2:(w5.setCell ⟨w1.heap.size,1,none⟩ (.slice (some ⟨gq,0,none⟩) RR c1)).heap.size=w5.heap.size:=bf _ _ _;have b3:=hid e5;rw[e5]at e4;have b5:=hid e4;have b9:=hid h7;have f7:=hid h6;have l5:=hid o3;have z5:=hid a6;have s2:=hid p2;have C7:=ae l4.out;clear a6 h6 o3 h3 e4 h7 e5 p2 f6
       by_cases hL0:L.toNat=0
       ·have i6:((L.toNat:Int)==0)=true:=by rw[beq_iff_eq];omega
        have i7:((L.toNat:Int)!=0)=false:=by simp[bne,i6]
        have a8:(L.toNat:Int)=0:=by omega
        have r3:=hid a8;clear a8;have a7:=hid hL0;clear hL0;go_wp2_with fail;refine Bx Tryz.results174 rfl rfl rfl f7.out.res (fun w9 h9 h9b=> ?_);refine⟨f7.out.but.next h9b (fun k hk h=>by omega),Or.inr ⟨st.take RR,lo,some ⟨gq,0,none⟩,c1,a2,c2,by rw[g0.out,if_pos a7.out,List.append_nil],by rw[b3.out],?_,?_⟩⟩
        ·rw[b3.out];exact BtB.but (World.ownsRow.mono b5.out (by omega)) h9b (fun g hg h=>by have:=ay b5.out g hg;omega)
        ·exact BtB.but (World.ownsRow.mono b9.out (by omega)) h9b (fun g hg h=>by have:=ay b9.out g hg;omega)
       ·have i6:=tf L.toNat 0 (by omega);have i7:((L.toNat:Int)!=0)=true:=by simp[bne,i6]
        have a8: ¬(L.toNat:Int)=0:=by omega
        have a7:=hid hL0;clear hL0
        have n2:(w5.setCell ⟨w1.heap.size,1,none⟩ (.slice (some ⟨gq,0,none⟩) RR c1)).ownsRow (w.heap.size+1+1+1+1) 5 1 (.slice (some ⟨gq,0,none⟩) RR c1) RR (bu (st.take RR)):=by
         have:=b5.out;unfold BtB at this;rw[b3.out]at this;exact this
        have r6:=hid n2;clear n2;go_wp2_with (at_builtin;refine wpList_append_lies _ rfl _ _ _ rfl (w.heap.size+1+1+1+1) 5 t0 _ 1 1 (by kernel_rfl) y9 z0 z1 z2 rfl (by omega) _ RR (bu (st.take RR)) rfl (r6.out.alloc _) ⟨w5.heap.size,0,none⟩ 1 1 [.int .u8 L.toNat] rfl rfl (World.news_of_block (cs:=#[.int .u8 L.toNat]) (t:=5) (fr:=(0,0)) (aw s2.out _)) (by simp[Value.oneCell']) (by omega) (by unfold maxLen;omega) (by omega) (by simp;omega) (w5.heap.size+1) (by simp) ?_);intro gg cap3 w7 a4 a5 n9 v7;have g4:But (fun k'=>(Value.slice (some ⟨gq,0,none⟩) RR c1).ownBlock=some k') (w5.setCell ⟨w1.heap.size,1,none⟩ (.slice (some ⟨gq,0,none⟩) RR c1)) w7:=(But.alloc _ _ _).trans (aQ a5)
        have hF: ∀k,k≠gq→ ¬(Value.slice (some ⟨gq,0,none⟩) RR c1).ownBlock=some k:=fun k hk h=>hk (by injection h with h;exact h.symm)
        have o5:=f5 gq rfl;have o4:=ay b5.out gq rfl;have e7:=f7.out.next g4 (fun k hk=>hF k (by omega));have g5:=(g4.block w1.heap.size (ae l5.out) (hF _ (by omega))).trans l5.out;have o6:=b9.out.but g4 (fun g hg=>hF g (fun h=>by have h1:=ay b9.out g hg;have h2:=j1 gq rfl;omega));have B3:=ay a4 gg rfl
        have t6:gg≠w1.heap.size:=fun h=>by
         rcases n9 with h'|h'
         ·have h2:gq=gg:=Option.some.inj h';omega
         ·omega
        clear b0 b1 b2 e0 e1 e2 r0 r1 r2 f0 f1 f2;obtain⟨b0,b1,b2⟩:=eu g5;obtain⟨e0,e1,e2⟩:=ji g5;obtain⟨r0,r1,r2⟩:=eu e7.res;obtain⟨f0,f1,f2⟩:=ji e7.res;have g2:But (· =w1.heap.size) w7 (w7.setCell ⟨w1.heap.size,1,none⟩ (.slice (some ⟨gg,0,none⟩) (RR+1) cap3)):=But.setB w7 w1.heap.size 1 (.slice (some ⟨gg,0,none⟩) (RR+1) cap3);have n6:=e7.next g2 (fun k hk h=>by omega);have p0:=o6.but g2 (fun g hg h=>by have:=f4 g hg;omega)
        have n3:BtB (w7.setCell ⟨w1.heap.size,1,none⟩ (.slice (some ⟨gg,0,none⟩) (RR+1) cap3)) (w.heap.size+1+1+1+1) (.slice (some ⟨gg,0,none⟩) (st.take RR++ [L]).length cap3) (st.take RR++ [L]):=by
         unfold BtB;rw[List.length_append,b3.out,bu,List.map_append];exact ar a4 g2 (fun g hg h=>by simp[Value.ownBlock]at hg;omega)
        have m4:=hid n6;have m0:=hid p0;have m2:=hid n3;have v5:=e7.gt;have v2:=ae g5;clear e7 g5 o6 g4 a5 a4 n9 g2 n6 p0 n3 hF;go_wp2_with fail;refine Bx Tryz.results174 rfl rfl rfl m4.out.res (fun w9 h9 h9b=> ?_);have t4:(st.take RR++ [L]).length=RR+1:=by rw[List.length_append,b3.out];rfl
        refine⟨m4.out.but.next h9b (fun k hk h=>by omega),Or.inr ⟨st.take RR++ [L],lo,some ⟨gg,0,none⟩,cap3,a2,c2,by rw[g0.out,if_neg a7.out],by rw[t4],?_,?_⟩⟩
        ·exact BtB.but (World.ownsRow.mono m2.out (by omega)) h9b (fun g hg h=>by have:=ay m2.out g hg;omega)
        ·exact BtB.but (World.ownsRow.mono m0.out (by omega)) h9b (fun g hg h=>by have:=ay m0.out g hg;omega)
     ·have m5:=tf op.toNat 108 (by omega);have i9:=f6.out;rw[if_neg (fun h=>h108 h.1)]at i9;have g0:=hid i9;clear i9 h108 h115;have o0:=a9.cap;have x9:(RR:Int)≤(c1:Int):=by omega
      have a6:But (· =w1.heap.size) w5 (w5.setCell ⟨w1.heap.size,1,none⟩ (.slice (some ⟨gq,0,none⟩) RR c1)):=But.setB w5 w1.heap.size 1 (.slice (some ⟨gq,0,none⟩) RR c1);have h6:=k1.out.next a6 (fun k hk h=>by omega);have o3:=heap_setCell_same w5 w1.heap.size 1 _ _ (.slice (some ⟨gq,0,none⟩) RR c1) l4.out;have e5:(st.take RR).length=RR:=by simp;omega
      have h3:=a9.pre (n:=RR) (by omega);have e4:=h3.but a6 (fun g hg h=>by have:=f5 g hg;omega);have h7:=g6.but a6 (fun g hg h=>by have:=f4 g hg;omega);have p2:(w5.setCell ⟨w1.heap.size,1,none⟩ (.slice (some ⟨gq,0,none⟩) RR c1)).heap.size=w5.heap.size:=bf _ _ _;have b3:=hid e5;rw[e5]at e4;have b5:=hid e4;have b9:=hid h7;have f7:=hid h6;have l5:=hid o3;have z5:=hid a6;have s2:=hid p2;have C7:=ae l4.out;clear a6 h6 o3 h3 e4 h7 e5 p2 f6
      by_cases hL0:L.toNat=0
      ·have i6:((L.toNat:Int)==0)=true:=by rw[beq_iff_eq];omega
       have i7:((L.toNat:Int)!=0)=false:=by simp[bne,i6]
       have a8:(L.toNat:Int)=0:=by omega
       have r3:=hid a8;clear a8;have a7:=hid hL0;clear hL0;go_wp2_with fail;refine Bx Tryz.results174 rfl rfl rfl f7.out.res (fun w9 h9 h9b=> ?_);refine⟨f7.out.but.next h9b (fun k hk h=>by omega),Or.inr ⟨st.take RR,lo,some ⟨gq,0,none⟩,c1,a2,c2,by rw[g0.out,if_pos a7.out,List.append_nil],by rw[b3.out],?_,?_⟩⟩
       ·rw[b3.out];exact BtB.but (World.ownsRow.mono b5.out (by omega)) h9b (fun g hg h=>by have:=ay b5.out g hg;omega)
       ·exact BtB.but (World.ownsRow.mono b9.out (by omega)) h9b (fun g hg h=>by have:=ay b9.out g hg;omega)
      ·have i6:=tf L.toNat 0 (by omega);have i7:((L.toNat:Int)!=0)=true:=by simp[bne,i6]
       have a8: ¬(L.toNat:Int)=0:=by omega
       have a7:=hid hL0;clear hL0
       have n2:(w5.setCell ⟨w1.heap.size,1,none⟩ (.slice (some ⟨gq,0,none⟩) RR c1)).ownsRow (w.heap.size+1+1+1+1) 5 1 (.slice (some ⟨gq,0,none⟩) RR c1) RR (bu (st.take RR)):=by
        have:=b5.out;unfold BtB at this;rw[b3.out]at this;exact this
       have r6:=hid n2;clear n2;go_wp2_with (at_builtin;refine wpList_append_lies _ rfl _ _ _ rfl (w.heap.size+1+1+1+1) 5 t0 _ 1 1 (by kernel_rfl) y9 z0 z1 z2 rfl (by omega) _ RR (bu (st.take RR)) rfl (r6.out.alloc _) ⟨w5.heap.size,0,none⟩ 1 1 [.int .u8 L.toNat] rfl rfl (World.news_of_block (cs:=#[.int .u8 L.toNat]) (t:=5) (fr:=(0,0)) (aw s2.out _)) (by simp[Value.oneCell']) (by omega) (by unfold maxLen;omega) (by omega) (by simp;omega) (w5.heap.size+1) (by simp) ?_);intro gg cap3 w7 a4 a5 n9 v7;have g4:But (fun k'=>(Value.slice (some ⟨gq,0,none⟩) RR c1).ownBlock=some k') (w5.setCell ⟨w1.heap.size,1,none⟩ (.slice (some ⟨gq,0,none⟩) RR c1)) w7:=(But.alloc _ _ _).trans (aQ a5)
       have hF: ∀k,k≠gq→ ¬(Value.slice (some ⟨gq,0,none⟩) RR c1).ownBlock=some k:=fun k hk h=>hk (by injection h with h;exact h.symm)
       have o5:=f5 gq rfl;have o4:=ay b5.out gq rfl;have e7:=f7.out.next g4 (fun k hk=>hF k (by omega));have g5:=(g4.block w1.heap.size (ae l5.out) (hF _ (by omega))).trans l5.out;have o6:=b9.out.but g4 (fun g hg=>hF g (fun h=>by have h1:=ay b9.out g hg;have h2:=j1 gq rfl;omega));have B3:=ay a4 gg rfl
       have t6:gg≠w1.heap.size:=fun h=>by
        rcases n9 with h'|h'
        ·have h2:gq=gg:=Option.some.inj h';omega
        ·omega
       clear b0 b1 b2 e0 e1 e2 r0 r1 r2 f0 f1 f2;obtain⟨b0,b1,b2⟩:=eu g5;obtain⟨e0,e1,e2⟩:=ji g5;obtain⟨r0,r1,r2⟩:=eu e7.res;obtain⟨f0,f1,f2⟩:=ji e7.res;have g2:But (· =w1.heap.size) w7 (w7.setCell ⟨w1.heap.size,1,none⟩ (.slice (some ⟨gg,0,none⟩) (RR+1) cap3)):=But.setB w7 w1.heap.size 1 (.slice (some ⟨gg,0,none⟩) (RR+1) cap3);have n6:=e7.next g2 (fun k hk h=>by omega);have p0:=o6.but g2 (fun g hg h=>by have:=f4 g hg;omega)
       have n3:BtB (w7.setCell ⟨w1.heap.size,1,none⟩ (.slice (some ⟨gg,0,none⟩) (RR+1) cap3)) (w.heap.size+1+1+1+1) (.slice (some ⟨gg,0,none⟩) (st.take RR++ [L]).length cap3) (st.take RR++ [L]):=by
        unfold BtB;rw[List.length_append,b3.out,bu,List.map_append];exact ar a4 g2 (fun g hg h=>by simp[Value.ownBlock]at hg;omega)
       have m4:=hid n6;have m0:=hid p0;have m2:=hid n3;have v5:=e7.gt;have v2:=ae g5;clear e7 g5 o6 g4 a5 a4 n9 g2 n6 p0 n3 hF;go_wp2_with fail;refine Bx Tryz.results174 rfl rfl rfl m4.out.res (fun w9 h9 h9b=> ?_);have t4:(st.take RR++ [L]).length=RR+1:=by rw[List.length_append,b3.out];rfl
       refine⟨m4.out.but.next h9b (fun k hk h=>by omega),Or.inr ⟨st.take RR++ [L],lo,some ⟨gg,0,none⟩,cap3,a2,c2,by rw[g0.out,if_neg a7.out],by rw[t4],?_,?_⟩⟩
       ·exact BtB.but (World.ownsRow.mono m2.out (by omega)) h9b (fun g hg h=>by have:=ay m2.out g hg;omega)
       ·exact BtB.but (World.ownsRow.mono m0.out (by omega)) h9b (fun g hg h=>by have:=ay m0.out g hg;omega)
end
end Go.Proofs.YtpfkkmacakjmbaaGreatDoor
