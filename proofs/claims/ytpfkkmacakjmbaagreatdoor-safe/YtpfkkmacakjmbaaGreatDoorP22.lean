import Derived.Test.YtpfkkmacakjmbaaGreatDoorP14
set_option maxRecDepth 100000
set_option maxHeartbeats 6400000
set_option linter.all false
namespace Go.Proofs.YtpfkkmacakjmbaaGreatDoor
open Proofs.Tryz
section
open Go Go.RowKit Sp
theorem ij {w:World} {base:Nat} {v:Value} {l:L_} (h:BtB w base v l):(convert 112 9 v).run prog w= .ok (.string ⟨l.toArray⟩) w:=by
 obtain⟨ao,cap,rfl⟩:=aw h
 cases ao with
 |none=>
  have hm:l.length=0:=by
   obtain h'|h':=Nat.eq_zero_or_pos l.length
   .exact h'
   .obtain⟨g,hg,_⟩:=aF h h'
    cases hg
  have a1:l=[]:=List.length_eq_zero_iff.1 hm;subst a1;have a2:prog.underlying 112=some (.slice 5):=by kernel_rfl
  have a3:prog.underlying 9=some .string:=by kernel_rfl
  have a4:prog.underlying 5=some (.int .u8):=by kernel_rfl
  have h9:=run_convert_bytes_string (P:=prog) w 112 9 5 none 0 cap a2 a4 a3;refine h9.trans ?_;simp[Conv.bytesToString]
  rfl
 |some ad=>
  refine(?_ :(convert 112 9 (.slice (some ad) l.length cap)).run prog w=_);refine run_convert_bytes_back w 112 9 5 ad cap l (by kernel_rfl) (by kernel_rfl) (by kernel_rfl) ?_;intro j hj;obtain⟨g,hg,a5,a6,hc⟩:=aF h (by omega);have a0:=Option.some.inj hg;rw[a0];have h3:=hc j _ (dP hj);have e:(⟨g,0,none⟩:Addr).add j=⟨g,j,none⟩:=by simp[Addr.add];exact λh=>h.symm
  rw[e,h3];simp[List.getD,hj]
end
section
open Go Go.RowKit Sp
attribute [local go_sem ↓] dG dH
def xsV (kn:Bool) (vs vl:Value):Value:= .agg #[.bool kn,vs,vl]
theorem oA (bx:Nat) (kn:Bool) (aa al:Option Addr) (cs cl:Nat) (st lo:L_) (w:World) (hs:BtB w bx (.slice aa st.length cs) st) (hl:BtB w bx (.slice al lo.length cl) lo) (h1:st.length<=1000) (h2:lo.length<=1000):
  Calls prog 171 #[xsV kn (.slice aa st.length cs) (.slice al lo.length cl)] w λen w'=>B_ w w'/\ ∃a1 c1 a2 c2 B2,en= .returned (xsV kn (.slice a1 st.length c1) (.slice a2 lo.length c2))/\BtB w' w.heap.size (.slice a1 st.length c1) st/\BtB w' B2 (.slice a2 lo.length c2) lo/\w.heap.size<=B2/\(∀g,(Value.slice a1 st.length c1).ownBlock=some g->g<B2)/\(Value.slice a1 st.length c1).ownBlock≠none:=by
 unfold xsV;have e0:B_ w ((w.alloc (.cells #[.bool kn,.slice aa st.length cs,.slice al lo.length cl] 117)).alloc (.cells #[.bool false,S_,S_] 117)):=(ag _ _ _).trans (ag _ _ _);have f5:((w.alloc (.cells #[.bool kn,.slice aa st.length cs,.slice al lo.length cl] 117)).alloc (.cells #[.bool false,S_,S_] 117)).heap.size=w.heap.size+1+1:=by simp
 have e8:((w.alloc (.cells #[.bool kn,.slice aa st.length cs,.slice al lo.length cl] 117)).alloc (.cells #[.bool false,S_,S_] 117)).heap[w.heap.size]?=some (.cells #[.bool kn,.slice aa st.length cs,.slice al lo.length cl] 117):=by
  rw[(ag (λ_=>False) (w.alloc (.cells #[.bool kn,.slice aa st.length cs,.slice al lo.length cl] 117)) (.cells #[.bool false,S_,S_] 117)).block w.heap.size (ae (aO w _)) (λh=>h)];exact aO w _
 have e6:((w.alloc (.cells #[.bool kn,.slice aa st.length cs,.slice al lo.length cl] 117)).alloc (.cells #[.bool false,S_,S_] 117)).heap[w.heap.size+1]?=some (.cells #[.bool false,S_,S_] 117):=aB (by simp) _;have hE:=BtB.empty ((w.alloc (.cells #[.bool kn,.slice aa st.length cs,.slice al lo.length cl] 117)).alloc (.cells #[.bool false,S_,S_] 117));have b1:B_ ((w.alloc (.cells #[.bool kn,.slice aa st.length cs,.slice al lo.length cl] 117)).alloc (.cells #[.bool false,S_,S_] 117)) (((w.alloc (.cells #[.bool kn,.slice aa st.length cs,.slice al lo.length cl] 117)).alloc (.cells #[.bool false,S_,S_] 117)).alloc (.cells #[] 5)):=ag _ _ _
 rw[f5]at hE;have f4:=(hs.but e0 (λ_ _ h=>h)).but b1 (λ_ _ h=>h);have f1:=(hl.but e0 (λ_ _ h=>h)).but b1 (λ_ _ h=>h);have f6:((w.alloc (.cells #[.bool kn,.slice aa st.length cs,.slice al lo.length cl] 117)).alloc (.cells #[.bool false,S_,S_] 117)).alloc (.cells #[] 5) |>.heap.size |> (w.heap.size+1+1<= ·):=by simp
 have HN:Hid ([]++st=st):=hid (by simp);have e1:=hid (b1.kp e8);have e2:=hid ((b1.block (w.heap.size+1) (ae e6) (λh=>h)).trans e6);have g5:=e0.trans b1;clear e8 e6 e0 b1 f5
 go_in
 go_wp2_with (at_builtin;refine bD rfl _ _ rfl (w.heap.size+1+1) bx _ _ [] st st HN rfl rfl hE f4 (by omega) f6 ?_);intro a1 c1 w3 h3 c9 h0;have b9:(Value.slice (some ⟨w.heap.size+1+1,0,none⟩) 0 0).ownBlock=some (w.heap.size+1+1):=rfl
 have f3:(Value.slice a1 st.length c1).ownBlock≠none:=λh=>by
  obtain h'|h':=h0<;>(rw[h]at h';cases h')
 have f8:=hid f3;clear f3;have hF: ∀k,k<w.heap.size+1+1-> ¬(Value.slice (some ⟨w.heap.size+1+1,0,none⟩) 0 0).ownBlock=some k:=λk hk h=>by rw[b9]at h;injection h with h;omega
 have a8:=(c9.block w.heap.size (ae e1.out) (hF _ (by omega))).trans e1.out;have b0:=(c9.block (w.heap.size+1) (ae e2.out) (hF _ (by omega))).trans e2.out;have f2:=f1.but c9 (λg hg=>hF g (by have:=aW hl g hg;omega));have b4:B_ w w3:=g5.next c9 (λk hk h=>hF k (by omega) h);have a4:=aW h3;have c7:=ay h3;have h9:=b4.size;have f0:=ae b0;have e9:w.heap.size<w3.heap.size:=by omega
 have g6:=BtB.empty w3;have d6:B_ w3 (w3.alloc (.cells #[] 5)):=ag _ _ _;have g7:=f2.but d6 (λ_ _ h=>h);have h6:=h3.but d6 (λ_ _ h=>h);have h8:w3.heap.size<=(w3.alloc (.cells #[] 5)).heap.size:=d6.size;have hq:=ce2 a8;have f7:Hid ([]++lo=lo):=hid (by simp);have a5:=hid a8;have a6:=hid b0;have HF:=hid hF;clear a8 b0 hF b9 e1 e2 f4 f1 hE f6 h3 f2;go_wp2_with (at_builtin;refine bD rfl _ _ rfl w3.heap.size bx _ _ [] lo lo f7 rfl rfl g6 g7 (by omega) h8 ?_);intro a2 c2 w5 h5 e7 h4;have a3:(Value.slice (some ⟨w3.heap.size,0,none⟩) 0 0).ownBlock=some w3.heap.size:=rfl;have b5: ∀k,k<w3.heap.size-> ¬(Value.slice (some ⟨w3.heap.size,0,none⟩) 0 0).ownBlock=some k:=λk hk h=>by rw[a3]at h;injection h with h;omega
 have a7:But (λk=>(Value.slice (some ⟨w3.heap.size,0,none⟩) 0 0).ownBlock=some k) w3 w5:=(d6.mono (λ_ _ h=>h.elim)).trans e7;have b6:=(a7.block w.heap.size (ae a5.out) (b5 _ (by omega))).trans a5.out;have a0:=(a7.block (w.heap.size+1) (ae a6.out) (b5 _ (by omega))).trans a6.out;have h7:=h6.but e7 (λg hg=>b5 g (a4 g hg));have e5:B_ w w5:=b4.next a7 (λk hk h=>b5 k (by omega) h);have e4:=ay h5;have q0:=ce0 b6;have y0:w5.cell? ⟨w.heap.size+1,0,none⟩=some (.bool false):=by rw[aX w5 (w.heap.size+1) 0 _ _ (0,0) a0];rfl
 have y1:w5.cell? ⟨w.heap.size+1,1,none⟩=some S_:=by rw[aX w5 (w.heap.size+1) 1 _ _ (0,0) a0];rfl
 have y2:w5.cell? ⟨w.heap.size+1,2,none⟩=some S_:=by rw[aX w5 (w.heap.size+1) 2 _ _ (0,0) a0];rfl
 have g0:w5.frozen? ⟨w.heap.size+1,0,none⟩=false:=b7 w5 (w.heap.size+1) 0 _ _ a0;have g1:w5.frozen? ⟨w.heap.size+1,1,none⟩=false:=b7 w5 (w.heap.size+1) 1 _ _ a0;have g2:w5.frozen? ⟨w.heap.size+1,2,none⟩=false:=b7 w5 (w.heap.size+1) 2 _ _ a0;have e3:=hid a0;clear b6 a0 a5 a6 hq a3 b5;go_wp2_with fail;have g3:=bG w5 (w.heap.size+1) 0 _ _ (.bool kn) e3.out;have g4:=bG _ (w.heap.size+1) 1 _ _ (.slice a1 st.length c1) g3;have b2:=bG _ (w.heap.size+1) 2 _ _ (.slice a2 lo.length c2) g4;have b3:=((au w5 (w.heap.size+1) 0 (.bool kn)).trans (au _ (w.heap.size+1) 1 (.slice a1 st.length c1))).trans (au _ (w.heap.size+1) 2 (.slice a2 lo.length c2))
 revert b2 b3;generalize (((w5.setCell ⟨w.heap.size+1,0,none⟩ (.bool kn)).setCell ⟨w.heap.size+1,1,none⟩ (.slice a1 st.length c1)).setCell ⟨w.heap.size+1,2,none⟩ (.slice a2 lo.length c2))=w6;intro b2 b3;have r0:w6.cell? ⟨w.heap.size+1,0,none⟩=some (.bool kn):=by rw[aX w6 (w.heap.size+1) 0 _ _ (0,0) b2];rfl
 have r1:w6.cell? ⟨w.heap.size+1,1,none⟩=some (.slice a1 st.length c1):=by rw[aX w6 (w.heap.size+1) 1 _ _ (0,0) b2];rfl
 have r2:w6.cell? ⟨w.heap.size+1,2,none⟩=some (.slice a2 lo.length c2):=by rw[aX w6 (w.heap.size+1) 2 _ _ (0,0) b2];rfl
 exact cW (v:= .agg #[.bool kn,.slice a1 st.length c1,.slice a2 lo.length c2]) (by simp[results,results171,go_sem,r0,r1,r2]) rfl
  ⟨e5.next b3 (λk hk h=>by omega),a1,c1,a2,c2,w3.heap.size,rfl,BtB.but (dn h7 (by omega)) b3 (λg hg h=>by have:=c7 g hg;omega),BtB.but h5 b3 (λg hg h=>by have:=e4 g hg;omega),by omega,a4,f8.out⟩
theorem rm (aa al:Option Addr) (cs cl:Nat) (st lo:L_) (w:World) (hs:BtB w 0 (.slice aa st.length cs) st) (hl:BtB w 0 (.slice al lo.length cl) lo):
  Calls prog 173 #[.slice aa st.length cs,.slice al lo.length cl] w λen w'=>en= .returned (.bool (decide (st=lo)))/\w'=w:=by
 have a0:=ij hs;have a1:=ij hl
 go_in
 go_wp2_with fail;exact cW (v:= .bool (decide (st=lo))) (by simp[results,results173,go_sem];rw[Bool.eq_iff_iff];simp) rfl ⟨rfl,rfl⟩
def ju (cs:List bV) (st asked:L_):Bool:=(List.range asked.length).all λi=>cJ cs (st.getD (st.length-asked.length+i) 0) (asked.getD i 0)
def sK (cs:List bV) (ms:List Sig) (x:XIt) (ans:UInt8) (st lo:L_):Option (L_×L_):=
 if st.length<(aE cs ms x.op x.cls x.num ans).length\/ju cs st (aE cs ms x.op x.cls x.num ans)=false then none else
 if x.op.toNat=115/\ ¬x.num<lo.length then none else
 if x.op.toNat=108/\(aM cs ms x.op x.cls x.num (if x.op.toNat=115 then lo.set x.num (st.getD (st.length-(aE cs ms x.op x.cls x.num ans).length) 0)else lo)).toNat=45 then none else
 some (st.take (st.length-(aE cs ms x.op x.cls x.num ans).length)++(if(aM cs ms x.op x.cls x.num (if x.op.toNat=115 then lo.set x.num (st.getD (st.length-(aE cs ms x.op x.cls x.num ans).length) 0)else lo)).toNat=0 then []else [aM cs ms x.op x.cls x.num (if x.op.toNat=115 then lo.set x.num (st.getD (st.length-(aE cs ms x.op x.cls x.num ans).length) 0)else lo)]),
  if x.op.toNat=115 then lo.set x.num (st.getD (st.length-(aE cs ms x.op x.cls x.num ans).length) 0)else lo)
structure BhW (w wx:World) (c r:UInt8) (m:Nat) (vl vi:Value) (pl nu:Nat) (op ic:UInt8) (pa:Option Addr) (pn pc:Nat):Prop where
 but:B_ w wx
 bod:wx.heap[w.heap.size]?=some (.cells #[.int .u8 c.toNat,.int .i64 m,.int .u8 r.toNat,vl,vi] 115)
 item:wx.heap[w.heap.size+1]?=some (.cells #[.int .i64 pl,.int .u8 op.toNat,.int .u8 ic.toNat,.int .i64 nu,.slice pa pn pc] 219)
 res:wx.heap[w.heap.size+1+1+1]?=some (.cells #[.bool false,S_,S_] 117)
section
variable {w w1 w2:World} {c r:UInt8} {m:Nat} {vl vi:Value} {pl nu:Nat} {op ic:UInt8} {pa:Option Addr} {pn pc:Nat}
theorem BhW.next {F:Nat->Prop} (h:BhW w w1 c r m vl vi pl nu op ic pa pn pc) (hb:But F w1 w2) (hF: ∀k,k<w.heap.size+4-> ¬F k):BhW w w2 c r m vl vi pl nu op ic pa pn pc:=
 ⟨h.but.next hb (λk hk hf=>hF k (by omega) hf),(hb.block _ (ae h.bod) (hF _ (by omega))).trans h.bod,(hb.block _ (ae h.item) (hF _ (by omega))).trans h.item,(hb.block _ (ae h.res) (hF _ (by omega))).trans h.res⟩
theorem BhW.gt (h:BhW w w1 c r m vl vi pl nu op ic pa pn pc):w.heap.size+3<w1.heap.size:=ae h.res
end
theorem kI {w:World} {g t:Nat} {x0 x1 x2:Value} (h:w.heap[g]?=some (.cells #[x0,x1,x2] t)):w.frozen? ⟨g,0,none⟩=false/\w.frozen? ⟨g,1,none⟩=false/\w.frozen? ⟨g,2,none⟩=false:=
 ⟨b7 w g 0 _ _ h,b7 w g 1 _ _ h,b7 w g 2 _ _ h⟩
def Ct (w:World) (g:Nat) (x0 x1 x2:Value):World:=((w.setCell ⟨g,0,none⟩ x0).setCell ⟨g,1,none⟩ x1).setCell ⟨g,2,none⟩ x2
theorem ro {w:World} {g t:Nat} {a0 a1 a2:Value} (h:w.heap[g]?=some (.cells #[a0,a1,a2] t)) (x0 x1 x2:Value):(Ct w g x0 x1 x2).heap[g]?=some (.cells #[x0,x1,x2] t):=by
 have h1:=bG w g 0 _ _ x0 h;have h2:=bG _ g 1 _ _ x1 h1;exact bG _ g 2 _ _ x2 h2
theorem uD (w:World) (g:Nat) (x0 x1 x2:Value):But (· =g) w (Ct w g x0 x1 x2):=((au w g 0 x0).trans (au _ g 1 x1)).trans (au _ g 2 x2)
theorem nr {fn:Func} {R:Ending->World->Prop} {a:Act} {w:World} {c f g:Nat} {a0 a1 a2 x0 x1 x2:Value} {e:Bool} (hf:fn.results=#[.cell c 117,.tmp f]) (hd:a.defers=[]) (hc:a.tmps.getD c undef= .pointer (some ⟨g,0,none⟩)) (he:a.tmps.getD f undef= .bool e) (h:w.heap[g]?=some (.cells #[a0,a1,a2] 117)) (hR: ∀w9,w9.heap[g]?=some (.cells #[x0,x1,x2] 117)->But (· =g) w w9->R (.returned (.tuple #[.agg #[x0,x1,x2],.bool e])) w9):bodyPost prog fn R .ret a (((w.setCell ⟨g,0,none⟩ x0).setCell ⟨g,1,none⟩ x1).setCell ⟨g,2,none⟩ x2):=by
 have h9:=ro h x0 x1 x2;have r0:=ce0 h9;have r1:=ce1 h9;have r2:=ce2 h9;refine cW (v:= .tuple #[.agg #[x0,x1,x2],.bool e]) ?_ hd (hR _ h9 (uD w g x0 x1 x2));have a3:a.tmps[c]?.getD undef= .pointer (some ⟨g,0,none⟩):=by simpa using hc
 have a4:a.tmps[f]?.getD undef= .bool e:=by simpa using he
 unfold Ct at r0 r1 r2;simp[results,hf,a3,a4,go_sem,r0,r1,r2]
theorem BtB.pre {w:World} {base g cap n:Nat} {l:L_} (h:BtB w base (.slice (some ⟨g,0,none⟩) l.length cap) l) (hn:n<=l.length):BtB w base (.slice (some ⟨g,0,none⟩) (l.take n).length cap) (l.take n):=by
 have hl:(l.take n).length=n:=by simp;omega
 obtain⟨h1,_⟩ | ⟨g',cap',cur,h1,h2,h3,h4,h5,h6,h7⟩:=h.2
 .cases h1
 .have e1:cap=cap':=congrArg (λv=>match v with|Value.slice _ _ c=>c|_=>0) h1
  have e2:g=g':=by
   have:=congrArg (λv=>match v with|Value.slice (some a) _ _=>a.block|_=>0) h1;exact this
  subst e1 e2;refine⟨by simp[aP],Or.inr ⟨g,cap,cur,by rw[hl],h2,h3,by rw[hl];omega,h5,h6,?_⟩⟩;rw[hl];simp only[Nat.mul_one]at h7⊢;have:cur.toList.take n=(cur.toList.take l.length).take n:=by rw[List.take_take,Nat.min_eq_left hn]
  rw[this,h7];simp[aP,List.map_take]
theorem BtB.cap {w:World} {base cap:Nat} {ao:Option Addr} {l:L_} (h:BtB w base (.slice ao l.length cap) l):l.length<=cap:=by
 obtain⟨h1,h2⟩ | ⟨g',cap',cur,h1,_,_,h4,_⟩:=h.2
 .omega
 .have e1:cap=cap':=congrArg (λv=>match v with|Value.slice _ _ c=>c|_=>0) h1;rw[e1];exact h4
theorem BtB.put {w:World} {base g cap k:Nat} {l:L_} (h:BtB w base (.slice (some ⟨g,0,none⟩) l.length cap) l) (c:UInt8):BtB (w.setCell ⟨g,k,none⟩ (.int .u8 c.toNat)) base (.slice (some ⟨g,0,none⟩) l.length cap) (l.set k c):=by
 obtain⟨h1,_⟩ | ⟨g',cap',cur,h1,h2,h3,h4,h5,h6,h7⟩:=h.2
 .cases h1
 .have e1:cap=cap':=congrArg (λv=>match v with|Value.slice _ _ c=>c|_=>0) h1;have e2:g=g':=congrArg (λv=>match v with|Value.slice (some a) _ _=>a.block|_=>0) h1;subst e1 e2;refine⟨by simp[aP],Or.inr ⟨g,cap,cur.setIfInBounds k (.int .u8 c.toNat),by simp,h2,bG w g k _ _ _ h3,by simpa using h4,h5,by simpa using h6,?_⟩⟩;simp only[Nat.mul_one,List.length_set]at h7⊢;rw[Array.toList_setIfInBounds,List.take_set,h7];simp[aP,List.map_set]
theorem BtB.row {w:World} {base g cap:Nat} {n:Nat} {l:L_} (h:BtB w base (.slice (some ⟨g,0,none⟩) n cap) l): ∃cur,w.heap[g]?=some (.cells cur 5):=by
 obtain⟨h1,_⟩ | ⟨g',cap',cur,h1,h2,h3,_⟩:=h.2
 .cases h1
 .have e2:g=g':=congrArg (λv=>match v with|Value.slice (some a) _ _=>a.block|_=>0) h1;subst e2;exact⟨cur,h3⟩
theorem wA (cs:List bV) (ms:List Sig) (c k:UInt8) (n:Nat) (ans:UInt8):(aE cs ms c k n ans).length<=2:=by
 unfold aE
 repeat' split
 all_goals simp
theorem uE (b:Nat) (cs:List bV) (ms:List Sig) (c r:UInt8) (m:Nat) (vl vi:Value) (x:XIt) (aa al:Option Addr) (ca cl:Nat) (st lo:L_) (w:World) (hn:cs.length<=100) (hm:ms.length<=100) (hT:TxC w b cs) (hM:TxM w b ms)
  (hvl:vl.oneCell'=true) (hvi:vi.oneCell'=true) (hs:BtB w 0 (.slice aa st.length ca) st) (hl:BtB w 0 (.slice al lo.length cl) lo) (h1:st.length<=200) (h2:lo.length<=200):
  Calls prog 174 #[.pointer (some ⟨b,0,none⟩),hdV c m r vl vi,itV x,xsV true (.slice aa st.length ca) (.slice al lo.length cl)] w λen w'=>B_ w w'/\
   ((sK cs ms x r st lo=none/\en= .returned (.tuple #[xsV false S_ S_,.bool false]))\/
    (∃st' lo' a1 c1 a2 c2,sK cs ms x r st lo=some (st',lo')/\en= .returned (.tuple #[xsV true (.slice a1 (List.length st') c1) (.slice a2 (List.length lo') c2),.bool true])/\BtB w' w.heap.size (.slice a1 st'.length c1) st'/\BtB w' w.heap.size (.slice a2 lo'.length c2) lo')):=by
 obtain⟨pl,op,ic,nu,pa,pn,pc⟩:=x;obtain⟨t0,y1,y2,y3,y4⟩:=info_parts ke;unfold hdV itV xsV
 have p3:BhW w ((((w.alloc (.cells #[.int .u8 c.toNat,.int .i64 m,.int .u8 r.toNat,vl,vi] 115)).alloc (.cells #[.int .i64 pl,.int .u8 op.toNat,.int .u8 ic.toNat,.int .i64 nu,.slice pa pn pc] 219)).alloc (.cells #[.bool true,.slice aa st.length ca,.slice al lo.length cl] 117)).alloc (.cells #[.bool false,S_,S_] 117)) c r m vl vi pl nu op ic pa pn pc:=by
  refine⟨(((ag _ _ _).trans (ag _ _ _)).trans (ag _ _ _)).trans (ag _ _ _),?_,?_,aB (by simp) _⟩
  .rw[Below.heap_alloc _ _ _ (by simp;omega),Below.heap_alloc _ _ _ (by first| (simp;done) | (simp;omega)),Below.heap_alloc _ _ _ (by first| (simp;done) | (simp;omega))];exact aO w _
  .rw[Below.heap_alloc _ _ _ (by simp),Below.heap_alloc _ _ _ (by simp)];exact aB (by simp) _
 have y0:=hs.but p3.but (λ_ _ h=>h);have x7:=hl.but p3.but (λ_ _ h=>h);have v9:=hid p3;have q8:=hid (oA 0 true aa al ca cl st lo _ y0 x7 (by omega) (by omega));have y6:((((w.alloc (.cells #[.int .u8 c.toNat,.int .i64 m,.int .u8 r.toNat,vl,vi] 115)).alloc (.cells #[.int .i64 pl,.int .u8 op.toNat,.int .u8 ic.toNat,.int .i64 nu,.slice pa pn pc] 219)).alloc (.cells #[.bool true,.slice aa st.length ca,.slice al lo.length cl] 117)).alloc (.cells #[.bool false,S_,S_] 117)).heap.size=w.heap.size+1+1+1+1:=by simp
 have w6:=hid y6;clear p3 y0 x7 y6;unfold xsV at q8
 go_in
 go_wp2_with fail;refine q8.out.mono ?_;rintro en w1 ⟨x0,a1,c1,a2,c2,G2,rfl,o5,t6,z2,i6,v2⟩;have n1:=v9.out.next x0 (λ_ _ h=>h);rw[w6.out]at o5 z2
 obtain⟨gq,F0⟩: ∃gq,a1=some ⟨gq,0,none⟩:=by
  obtain⟨h,_⟩ | ⟨g,cap,cur,h,_⟩:=o5.2
  .rw[h]at v2;exact absurd rfl v2
  .exact⟨g,congrArg (λv=>match v with|Value.slice a _ _=>a|_=>none) h⟩
 subst F0;clear v2;clear q8 v9 w6 x0;have F2:=n1.gt;have f4:B_ w1 (w1.alloc (.cells #[.bool true,.slice (some ⟨gq,0,none⟩) st.length c1,.slice a2 lo.length c2] 117)):=ag _ _ _;have p4:=aO w1 (.cells #[.bool true,.slice (some ⟨gq,0,none⟩) st.length c1,.slice a2 lo.length c2] 117);have j7:=n1.next f4 (λ_ _ h=>h);have q5:=o5.but f4 (λ_ _ h=>h);have q3:=t6.but f4 (λ_ _ h=>h);have e8:=aW o5;have e7:=aW t6;obtain⟨i0,i1,i2,i3,i4⟩:=bN n1.item;obtain⟨d0,d1,d2,d3,d4⟩:=bN n1.bod;have l0:w.heap.size<w1.heap.size:=by omega
 have l1:w.heap.size+1<w1.heap.size:=by omega
 clear n1 o5 t6;go_wp2_with fail;revert f4 p4 j7 q5 q3;generalize (w1.alloc (.cells #[.bool true,.slice (some ⟨gq,0,none⟩) st.length c1,.slice a2 lo.length c2] 117))=w2;intro f4 p4 j7 q5 q3;have r3:=hid (mo (ap:=pa) (np:=pn) (cp:=pc) b cs ms pl nu op ic r w2 hn hm (hT.but j7.but) (hM.but j7.but));have z7:=wA cs ms op ic nu r
 have v5:Hid (∀T,aE cs ms op ic nu r=T->sK cs ms ⟨pl,op,ic,nu,pa,pn,pc⟩ r st lo=
   if st.length<T.length\/ju cs st T=false then none else
   if op.toNat=115/\ ¬nu<lo.length then none else
   if op.toNat=108/\(aM cs ms op ic nu (if op.toNat=115 then lo.set nu (st.getD (st.length-T.length) 0)else lo)).toNat=45 then none else
   some (st.take (st.length-T.length)++(if(aM cs ms op ic nu (if op.toNat=115 then lo.set nu (st.getD (st.length-T.length) 0)else lo)).toNat=0 then []else [aM cs ms op ic nu (if op.toNat=115 then lo.set nu (st.getD (st.length-T.length) 0)else lo)]),
    if op.toNat=115 then lo.set nu (st.getD (st.length-T.length) 0)else lo)):=hid (λT h=>by subst h;rfl)
 obtain⟨T,p2⟩: ∃T,aE cs ms op ic nu r=T:=⟨_,rfl⟩;have h5:=hid (v5.out T p2);have g7:op.toNat=115->0<T.length:=λh=>by rw[<-p2];simp[aE,h]
 have m0:=hid g7;clear g7;rw[p2]at r3 z7;clear v5 p2;refine r3.out.mono ?_;rintro en w3 ⟨m4,v3,rfl,w8⟩;obtain⟨a3,c3,F9⟩:=aw w8;subst F9;clear r3;have n2:=j7.next m4 (λ_ _ h=>h);have F8:=q5.but m4 (λ_ _ h=>h);have F5:=q3.but m4 (λ_ _ h=>h);have p5:=m4.kp p4;have s6:=ae p5;have G0:=m4.size;obtain⟨b0,b1,b2⟩:=ia p5;obtain⟨i0,i1,i2,i3,i4⟩:=bN n2.item;obtain⟨r0,r1,r2⟩:=ia n2.res;obtain⟨f0,f1,f2⟩:=kI n2.res;have r4:=hid n2;have z0:=hid p5;clear j7 q5 q3 p4 f4 p5 n2 d0 d1 d2 d3 d4
 by_cases hlen:st.length<T.length
 .have F7:(st.length:Int)-(T.length:Int)<0:=by omega
  have hN:sK cs ms ⟨pl,op,ic,nu,pa,pn,pc⟩ r st lo=none:=by rw[h5.out,if_pos (Or.inl hlen)]
  have HN:=hid hN;clear hN h5;go_wp2_with fail;refine nr results174 rfl rfl rfl r4.out.res (λw9 h9 h9b=> ?_);exact⟨r4.out.but.next h9b (λk hk h=>by omega),Or.inl ⟨HN.out,rfl⟩⟩
 .obtain⟨RR,s1⟩: ∃RR,st.length-T.length=RR:=⟨_,rfl⟩;rw[s1]at h5;have x9:(st.length:Int)-(T.length:Int)=(RR:Int):=by omega
  have G9:RR+T.length<=st.length:=by omega
  have v7:=hid s1;have G3: ¬(RR:Int)<0:=by omega
  clear s1;go_wp2_with fail
  go_loopg [13] T.length (λmm is wr=> ∃k:Nat,is= .int .i64 k/\k<=T.length/\k+mm<=T.length/\T.length<=k+mm/\B_ w3 wr/\Hid (∀i,i<k->cJ cs (st.getD (RR+i) 0) (T.getD i 0)=true))
  case atStart=>exact⟨0,rfl,by omega,by omega,by omega,But.refl _ _,λi hi=>absurd hi (by omega)⟩
  case round=>
   obtain⟨k,rfl,H0,F3,H1,i5,HA⟩:=hrel;clear F3;have n4:=r4.out.next i5 (λ_ _ h=>h);have k3:=F8.but i5 (λ_ _ h=>h);have j2:=F5.but i5 (λ_ _ h=>h);have r6:=w8.but i5 (λ_ _ h=>h);have p6:=(i5.block w1.heap.size s6 (λh=>h)).trans z0.out;have H2:=i5.size;have e6:=ae p6;clear b0 b1 b2 i0 i1 i2 i3 i4 r0 r1 r2 f0 f1 f2;obtain⟨b0,b1,b2⟩:=ia p6;obtain⟨i0,i1,i2,i3,i4⟩:=bN n4.item;obtain⟨r0,r1,r2⟩:=ia n4.res;obtain⟨f0,f1,f2⟩:=kI n4.res;have c7:=hid n4;have p0:=hid p6;clear n4 p6
   by_cases hlt:k<T.length
   .have F4:(k:Int)<(T.length:Int):=by omega
    have z3:RR+k<st.length:=by omega
    obtain⟨gs,p8,j1,_,n8⟩:=aF k3 (by omega);obtain⟨ga,z8,s3,_,x3⟩:=aF r6 (by omega);have q1:=n8 _ _ (dP z3);have q2:=x3 _ _ (dP hlt);have G4:((RR+k:Nat):Int)<(st.length:Int):=by omega
    have j0:gs=gq:=by have:=Option.some.inj p8;injection this with h;exact h.symm
    subst j0 z8;have g4:=hid (λ(h:cJ cs (st.getD (RR+k) 0) (T.getD k 0)=true)=>(λi (hi:i<k+1)=>if hik:i=k then(by rw[hik];exact h)else HA.out i (by omega): ∀i,i<k+1->cJ cs (st.getD (RR+i) 0) (T.getD i 0)=true))
    have g3:=hid (λ(h:cJ cs (st.getD (RR+k) 0) (T.getD k 0)=false)=>(show ju cs st T=false from by
     unfold ju;rw[List.all_eq_false];exact⟨k,List.mem_range.2 hlt,by rw[v7.out,h];simp⟩))
    clear n8 x3 HA;revert q1 q2 g4 g3;generalize st.getD (RR+k) 0=y;generalize T.getD k 0=z;intro q1 q2 g4 g3;go_wp2_with fail;have g6:B_ wr wr.drew:=aD _ _;have v8:=hid (pz b cs y z wr.drew hn ((hT.but c7.out.but).but g6));have G5:(RR:Int)+(k:Int)<(st.length:Int):=by omega
    have G6:(0:Int)<=(RR:Int)+(k:Int):=by omega
    have G7:((RR:Int)+(k:Int)).toNat=RR+k:=by omega
    have G8:IntKind.i64.wrap ((RR:Int)+(k:Int))=(RR:Int)+(k:Int):=er _ (by omega) (by omega);refine aI (B_ wr) 14 ?_
    iterate 12 (refine aQ (v:=?_) rfl g6 ?_ ?_;rotate_left;(focus (intro wS h;have q0:=(h.kc b1 e6);have q1:=(h.kc q1 j1);have q2:=(h.kc q2 s3);clear h;go_simp;try rfl));dsimp only[Act.put];try simp only[cH])
    refine az rfl ?_;intro KS hKS;go_simp;refine v8.out.mono ?_;rintro en wx ⟨rfl,y5⟩;rw[y5];clear y5 wx v8;refine hKS.out _ _ (λ_=>g6) ?_;clear hKS KS;refine az rfl ?_;intro KS hKS;go_simp;refine hKS.out _ _ (λ_=>g6) ?_;clear hKS KS;refine aR rfl ?_;have k0:=c7.out.next g6 (λ_ _ h=>h);have r8:=i5.trans g6;clear b0 b1 b2 i0 i1 i2 i3 i4 r0 r1 r2 f0 f1 f2 q1 q2;revert k0 r8;generalize wr.drew=wd;intro k0 r8;obtain⟨r0,r1,r2⟩:=ia k0.res;obtain⟨f0,f1,f2⟩:=kI k0.res;revert g4 g3
    cases cJ cs y z with
    |true=>
     intro g4 g3;have q7:=hid (g4.out rfl);clear g4 g3;go_wp2_with fail
     go_roundg (T.length-(k+1))
     case measure=>omega
     case rel=>exact⟨k+1,by simp,by omega,by omega,by omega,r8,q7.out⟩
    |false=>
     intro g4 g3;have hN:sK cs ms ⟨pl,op,ic,nu,pa,pn,pc⟩ r st lo=none:=by rw[h5.out,if_pos (Or.inr (g3.out rfl))]
     have HN:=hid hN;have w0:=hid k0;clear hN h5 g4 g3 k0;go_wp2_with fail;refine nr results174 rfl rfl rfl w0.out.res (λw9 h9 h9b=> ?_);exact⟨w0.out.but.next h9b (λk hk h=>by omega),Or.inl ⟨HN.out,rfl⟩⟩
   .have F4: ¬(k:Int)<(T.length:Int):=by omega
    have n5:ju cs st T=true:=by
     unfold ju;rw[List.all_eq_true];intro i hi;rw[v7.out];exact HA.out i (by have:=List.mem_range.1 hi;omega)
    have f4:=h5.out;rw[if_neg (by rw[n5];simp;omega)]at f4;have j4:=hid f4;clear n5 f4 h5 HA
    by_cases h115:op.toNat=115
    .have m3:((op.toNat:Int)==115)=true:=by rw[beq_iff_eq];omega
     have x1:=m0.out h115
     by_cases hnu:nu<lo.length
     .have F6:(nu:Int)<(lo.length:Int):=by omega
      have a0:=j4.out;rw[if_neg (λh=>h.2 hnu)]at a0;simp only[if_pos h115]at a0;have e9:=hid a0;have h4:=hid h115;clear a0 j4 h115;go_wp2_with fail;obtain⟨gl,B2,E2,s5,x4⟩:=aF j2 (by omega);subst B2;obtain⟨cur,n9⟩:=BtB.row j2;have fz:=b7 wr gl nu _ _ n9;have ql:=x4 _ _ (dP hnu);obtain⟨gs,p8,j1,_,n8⟩:=aF k3 (by omega);have j0:gs=gq:=by have:=Option.some.inj p8;injection this with h;exact h.symm
      subst j0;have z4:RR<st.length:=by omega
      have z5:(RR:Int)<(st.length:Int):=by omega
      have q1:=n8 _ _ (dP z4);have j3:aM cs ms op ic nu (lo.set nu (st.getD RR 0))=0:=by simp[aM,h4.out]
      have a0:=e9.out;rw[j3]at a0;simp only[show¬(op.toNat=108/\(0:UInt8).toNat=45)from λh=>by have:=h4.out;omega,if_false,show(0:UInt8).toNat=0 from rfl,if_true,List.append_nil]at a0;have f5:=hid a0;have p1:=hid j3;clear a0 e9 j3 x4 n8 n9 r6 p8;revert q1 f5 p1;generalize st.getD RR 0=y;intro q1 f5 p1;have g6:B_ wr wr.drew:=aD _ _;have x8:=e7 gl rfl;have F1:=i6 gs rfl;have x5:G2<=gl:=s5;have x6:gl≠w.heap.size+1:=by omega
      refine aI (B_ wr) 9 ?_
      iterate 9 (refine aQ (v:=?_) rfl g6 ?_ ?_;rotate_left;(focus (intro wS h;have Q0:=(h.kc b1 e6);have Q1:=(h.kc b2 e6);have Q2:=(h.kc i3 (ae c7.out.item));have Q3:=(h.kc q1 j1);clear h;go_simp;try rfl));dsimp only[Act.put];try simp only[cH])
      refine az rfl ?_;intro KS hKS;go_simp;refine hKS.out _ _ nofun ?_;clear hKS KS;refine az rfl ?_;intro KS hKS;go_simp;refine hKS.out _ _ nofun ?_;clear hKS KS;refine aR rfl ?_;have s0:But (· =gl) wr (wr.setCell ⟨gl,nu,none⟩ (.int .u8 y.toNat)).drew:=(au _ _ _ _).trans (aD _ _);have i7:=c7.out.next s0 (λk hk h=>by omega);have v4:=k3.but s0 (λg hg h=>by have h2:gs=g:=Option.some.inj hg;omega);have q4:=(j2.put (k:=nu) y).but (aD (λ_=>False) _) (λ_ _ h=>h);have b5:=(s0.block w1.heap.size e6 (by omega)).trans p0.out;clear b0 b1 b2 i0 i1 i2 i3 i4 r0 r1 r2 f0 f1 f2 k3 j2 c7 p0 fz ql q1
      revert i7 v4 q4 b5;generalize (wr.setCell ⟨gl,nu,none⟩ (.int .u8 y.toNat)).drew=wq;intro i7 v4 q4 b5;obtain⟨b0,b1,b2⟩:=ia b5;obtain⟨i0,i1,i2,i3,i4⟩:=bN i7.item;have f8:(lo.set nu y).length=lo.length:=by simp
      have t4:=ae b5;have v1:=lG (ap:=pa) (np:=pn) (cp:=pc) b cs ms pl nu op ic (some ⟨gl,0,none⟩) c2 (lo.set nu y) wq hn hm (hT.but i7.but) (hM.but i7.but) (by rw[f8];exact dn q4 (Nat.zero_le _));rw[f8,p1.out]at v1;have z1:=hid v1;have l5:=hid f8;have w4:=hid i7;have v6:=hid b5;clear v1 f8 i7 b5 p1;go_wp2_with fail;refine z1.out.mono ?_;rintro en w5 ⟨rfl,f6⟩;have e3:=w4.out.next f6 (λ_ _ h=>h);have b3:=v4.but f6 (λ_ _ h=>h);have g2:=q4.but f6 (λ_ _ h=>h);have e5:=(f6.block w1.heap.size t4 (λh=>h)).trans v6.out;have s9:=ae e5;clear b0 b1 b2 i0 i1 i2 i3 i4;obtain⟨b0,b1,b2⟩:=ia e5;obtain⟨e0,e1,e2⟩:=kI e5
      obtain⟨i0,i1,i2,i3,i4⟩:=bN e3.item;obtain⟨r0,r1,r2⟩:=ia e3.res;obtain⟨f0,f1,f2⟩:=kI e3.res;have j5:=hid e3;have k9:=hid e5;have m2:((op.toNat:Int)==108)=false:=by rw[eA];have:=h4.out;omega
      clear e3 e5 w4 v6 m3;have n7:=b3.cap;have x2:(RR:Int)<=(c1:Int):=by omega
      have a6:But (· =w1.heap.size) w5 (w5.setCell ⟨w1.heap.size,1,none⟩ (.slice (some ⟨gs,0,none⟩) RR c1)):=au w5 w1.heap.size 1 (.slice (some ⟨gs,0,none⟩) RR c1);have h0:=j5.out.next a6 (λk hk h=>by omega);have d6:(st.take RR).length=RR:=by simp;omega
      have g5:=b3.pre (n:=RR) (by omega);have c9:=g5.but a6 (λg hg h=>by have:=e8 g hg;omega);have h3:=g2.but a6 (λg hg h=>by have h2:gl=g:=Option.some.inj hg;omega);have b4:=hid d6;rw[d6]at c9;have b6:=hid c9;have b9:=hid h3;have f3:=hid h0;clear a6 h0 g5 c9 h3 d6;go_wp2_with fail;refine nr results174 rfl rfl rfl f3.out.res (λw9 h9 h9b=> ?_);refine⟨f3.out.but.next h9b (λk hk h=>by omega),Or.inr ⟨st.take RR,lo.set nu y,some ⟨gs,0,none⟩,c1,some ⟨gl,0,none⟩,c2,by rw[f5.out,if_neg (λh=>absurd h.2 (by decide))],by rw[b4.out,l5.out],?_,?_⟩⟩
      .rw[b4.out];exact BtB.but (dn b6.out (by omega)) h9b (λg hg h=>by have:=ay b6.out g hg;omega)
      .rw[l5.out];exact BtB.but (dn b9.out (by omega)) h9b (λg hg h=>by have h2:gl=g:=Option.some.inj hg;omega)
     .have F6: ¬(nu:Int)<(lo.length:Int):=by omega
      have hN:sK cs ms ⟨pl,op,ic,nu,pa,pn,pc⟩ r st lo=none:=by rw[j4.out,if_pos ⟨h115,hnu⟩]
      have HN:=hid hN;clear hN j4 h115;go_wp2_with fail;refine nr results174 rfl rfl rfl c7.out.res (λw9 h9 h9b=> ?_);exact⟨c7.out.but.next h9b (λk hk h=>by omega),Or.inl ⟨HN.out,rfl⟩⟩
    .have m3:=tf op.toNat 115 (by omega);have a0:=j4.out;rw[if_neg (λh=>h115 h.1)]at a0;simp only[if_neg h115]at a0;have e9:=hid a0;clear a0 j4;go_wp2_with fail;refine(lG (ap:=pa) (np:=pn) (cp:=pc) b cs ms pl nu op ic a2 c2 lo wr hn hm (hT.but c7.out.but) (hM.but c7.out.but) (dn j2 (Nat.zero_le _))).mono ?_;rintro en w5 ⟨rfl,f6⟩;obtain⟨L,hL⟩: ∃L,aM cs ms op ic nu lo=L:=⟨_,rfl⟩;rw[hL];rw[hL]at e9;clear hL;have e3:=c7.out.next f6 (λ_ _ h=>h);have b3:=k3.but f6 (λ_ _ h=>h);have g2:=j2.but f6 (λ_ _ h=>h);have e5:=(f6.block w1.heap.size e6 (λh=>h)).trans p0.out;have s9:=ae e5;clear b0 b1 b2 i0 i1 i2 i3 i4 r0 r1 r2 f0 f1 f2 k3 j2 r6
     obtain⟨b0,b1,b2⟩:=ia e5;obtain⟨e0,e1,e2⟩:=kI e5;obtain⟨i0,i1,i2,i3,i4⟩:=bN e3.item;obtain⟨r0,r1,r2⟩:=ia e3.res;obtain⟨f0,f1,f2⟩:=kI e3.res;have j5:=hid e3;have k9:=hid e5;clear e3 e5 c7 p0
     by_cases h108:op.toNat=108
     .have m2:((op.toNat:Int)==108)=true:=by rw[beq_iff_eq];omega
      by_cases h45:L.toNat=45
      .have eL:((L.toNat:Int)==45)=true:=by rw[beq_iff_eq];omega
       have hN:sK cs ms ⟨pl,op,ic,nu,pa,pn,pc⟩ r st lo=none:=by rw[e9.out,if_pos ⟨h108,h45⟩]
       have HN:=hid hN;clear hN e9 h108 h45 h115;go_wp2_with fail;refine nr results174 rfl rfl rfl j5.out.res (λw9 h9 h9b=> ?_);exact⟨j5.out.but.next h9b (λk hk h=>by omega),Or.inl ⟨HN.out,rfl⟩⟩
      .have eL:=tf L.toNat 45 (by omega);have h8:=e9.out;rw[if_neg (λh=>h45 h.2)]at h8;have f5:=hid h8;clear h8 h108 h45 h115;have n7:=b3.cap;have x2:(RR:Int)<=(c1:Int):=by omega
       have a6:But (· =w1.heap.size) w5 (w5.setCell ⟨w1.heap.size,1,none⟩ (.slice (some ⟨gq,0,none⟩) RR c1)):=au w5 w1.heap.size 1 (.slice (some ⟨gq,0,none⟩) RR c1);have h0:=j5.out.next a6 (λk hk h=>by omega);have o0:=bG w5 w1.heap.size 1 _ _ (.slice (some ⟨gq,0,none⟩) RR c1) k9.out;have d6:(st.take RR).length=RR:=by simp;omega
       have g5:=b3.pre (n:=RR) (by omega);have c9:=g5.but a6 (λg hg h=>by have:=e8 g hg;omega);have h3:=g2.but a6 (λg hg h=>by have:=e7 g hg;omega);have o6:(w5.setCell ⟨w1.heap.size,1,none⟩ (.slice (some ⟨gq,0,none⟩) RR c1)).heap.size=w5.heap.size:=bI _ _ _;have b4:=hid d6;rw[d6]at c9;have b6:=hid c9;have b9:=hid h3;have f3:=hid h0;have l3:=hid o0;have y9:=hid a6;have r5:=hid o6;have G1:=ae k9.out;clear a6 h0 o0 g5 c9 h3 d6 o6 e9
       by_cases hL0:L.toNat=0
       .have h6:((L.toNat:Int)==0)=true:=by rw[beq_iff_eq];omega
        have h7:((L.toNat:Int)!=0)=false:=by simp[bne,h6]
        have a8:(L.toNat:Int)=0:=by omega
        have q6:=hid a8;clear a8;have a7:=hid hL0;clear hL0;go_wp2_with fail;refine nr results174 rfl rfl rfl f3.out.res (λw9 h9 h9b=> ?_);refine⟨f3.out.but.next h9b (λk hk h=>by omega),Or.inr ⟨st.take RR,lo,some ⟨gq,0,none⟩,c1,a2,c2,by rw[f5.out,if_pos a7.out,List.append_nil],by rw[b4.out],?_,?_⟩⟩
        .rw[b4.out];exact BtB.but (dn b6.out (by omega)) h9b (λg hg h=>by have:=ay b6.out g hg;omega)
        .exact BtB.but (dn b9.out (by omega)) h9b (λg hg h=>by have:=ay b9.out g hg;omega)
       .have h6:=tf L.toNat 0 (by omega);have h7:((L.toNat:Int)!=0)=true:=by simp[bne,h6]
        have a8: ¬(L.toNat:Int)=0:=by omega
        have a7:=hid hL0;clear hL0
        have m5:(w5.setCell ⟨w1.heap.size,1,none⟩ (.slice (some ⟨gq,0,none⟩) RR c1)).ownsRow (w.heap.size+1+1+1+1) 5 1 (.slice (some ⟨gq,0,none⟩) RR c1) RR (aP (st.take RR)):=by
         have:=b6.out;unfold BtB at this;rw[b4.out]at this;exact this
        have q9:=hid m5;clear m5;go_wp2_with (at_builtin;refine wpList_append_lies _ rfl _ _ _ rfl (w.heap.size+1+1+1+1) 5 t0 _ 1 1 (by kernel_rfl) y1 y2 y3 y4 rfl (by omega) _ RR (aP (st.take RR)) rfl (q9.out.alloc _) ⟨w5.heap.size,0,none⟩ 1 1 [.int .u8 L.toNat] rfl rfl (fX (cs:=#[.int .u8 L.toNat]) (t:=5) (fr:=(0,0)) (aB r5.out _)) (by simp[Value.oneCell']) (by omega) (by unfold maxLen;omega) (by omega) (by simp;omega) (w5.heap.size+1) (by simp) ?_);intro gg cap3 w7 a4 a5 n6 v0;have g0:But (λk'=>(Value.slice (some ⟨gq,0,none⟩) RR c1).ownBlock=some k') (w5.setCell ⟨w1.heap.size,1,none⟩ (.slice (some ⟨gq,0,none⟩) RR c1)) w7:=(ag _ _ _).trans (bc a5)
        have hF: ∀k,k≠gq-> ¬(Value.slice (some ⟨gq,0,none⟩) RR c1).ownBlock=some k:=λk hk h=>hk (by injection h with h;exact h.symm)
        have o2:=e8 gq rfl;have o1:=ay b6.out gq rfl;have e4:=f3.out.next g0 (λk hk=>hF k (by omega));have g1:=(g0.block w1.heap.size (ae l3.out) (hF _ (by omega))).trans l3.out;have o3:=b9.out.but g0 (λg hg=>hF g (λh=>by have h1:=ay b9.out g hg;have h2:=i6 gq rfl;omega));have z9:=ay a4 gg rfl
        have s4:gg≠w1.heap.size:=λh=>by
         obtain h'|h':=n6
         .have h2:gq=gg:=Option.some.inj h';omega
         .omega
        clear b0 b1 b2 e0 e1 e2 r0 r1 r2 f0 f1 f2;obtain⟨b0,b1,b2⟩:=ia g1;obtain⟨e0,e1,e2⟩:=kI g1;obtain⟨r0,r1,r2⟩:=ia e4.res;obtain⟨f0,f1,f2⟩:=kI e4.res;have f7:But (· =w1.heap.size) w7 (w7.setCell ⟨w1.heap.size,1,none⟩ (.slice (some ⟨gg,0,none⟩) (RR+1) cap3)):=au w7 w1.heap.size 1 (.slice (some ⟨gg,0,none⟩) (RR+1) cap3);have n3:=e4.next f7 (λk hk h=>by omega);have o4:=o3.but f7 (λg hg h=>by have:=e7 g hg;omega)
        have n0:BtB (w7.setCell ⟨w1.heap.size,1,none⟩ (.slice (some ⟨gg,0,none⟩) (RR+1) cap3)) (w.heap.size+1+1+1+1) (.slice (some ⟨gg,0,none⟩) (st.take RR++ [L]).length cap3) (st.take RR++ [L]):=by
         unfold BtB;rw[aZ,b4.out,aP,List.map_append];exact aj a4 f7 (λg hg h=>by simp[Value.ownBlock]at hg;omega)
        have m1:=hid n3;have l4:=hid o4;have l6:=hid n0;have t5:=e4.gt;have t3:=ae g1;clear e4 g1 o3 g0 a5 a4 n6 f7 n3 o4 n0 hF;go_wp2_with fail;refine nr results174 rfl rfl rfl m1.out.res (λw9 h9 h9b=> ?_);have s2:(st.take RR++ [L]).length=RR+1:=by rw[aZ,b4.out];rfl
        refine⟨m1.out.but.next h9b (λk hk h=>by omega),Or.inr ⟨st.take RR++ [L],lo,some ⟨gg,0,none⟩,cap3,a2,c2,by rw[f5.out,if_neg a7.out],by rw[s2],?_,?_⟩⟩
        .exact BtB.but (dn l6.out (by omega)) h9b (λg hg h=>by have:=ay l6.out g hg;omega)
        .exact BtB.but (dn l4.out (by omega)) h9b (λg hg h=>by have:=ay l4.out g hg;omega)
     .have m2:=tf op.toNat 108 (by omega);have h8:=e9.out;rw[if_neg (λh=>h108 h.1)]at h8;have f5:=hid h8;clear h8 h108 h115;have n7:=b3.cap;have x2:(RR:Int)<=(c1:Int):=by omega
      have a6:But (· =w1.heap.size) w5 (w5.setCell ⟨w1.heap.size,1,none⟩ (.slice (some ⟨gq,0,none⟩) RR c1)):=au w5 w1.heap.size 1 (.slice (some ⟨gq,0,none⟩) RR c1);have h0:=j5.out.next a6 (λk hk h=>by omega);have o0:=bG w5 w1.heap.size 1 _ _ (.slice (some ⟨gq,0,none⟩) RR c1) k9.out;have d6:(st.take RR).length=RR:=by simp;omega
      have g5:=b3.pre (n:=RR) (by omega);have c9:=g5.but a6 (λg hg h=>by have:=e8 g hg;omega);have h3:=g2.but a6 (λg hg h=>by have:=e7 g hg;omega);have o6:(w5.setCell ⟨w1.heap.size,1,none⟩ (.slice (some ⟨gq,0,none⟩) RR c1)).heap.size=w5.heap.size:=bI _ _ _;have b4:=hid d6;rw[d6]at c9;have b6:=hid c9;have b9:=hid h3;have f3:=hid h0;have l3:=hid o0;have y9:=hid a6;have r5:=hid o6;have G1:=ae k9.out;clear a6 h0 o0 g5 c9 h3 d6 o6 e9
      by_cases hL0:L.toNat=0
      .have h6:((L.toNat:Int)==0)=true:=by rw[beq_iff_eq];omega
       have h7:((L.toNat:Int)!=0)=false:=by simp[bne,h6]
       have a8:(L.toNat:Int)=0:=by omega
       have q6:=hid a8;clear a8;have a7:=hid hL0;clear hL0;go_wp2_with fail;refine nr results174 rfl rfl rfl f3.out.res (λw9 h9 h9b=> ?_);refine⟨f3.out.but.next h9b (λk hk h=>by omega),Or.inr ⟨st.take RR,lo,some ⟨gq,0,none⟩,c1,a2,c2,by rw[f5.out,if_pos a7.out,List.append_nil],by rw[b4.out],?_,?_⟩⟩
       .rw[b4.out];exact BtB.but (dn b6.out (by omega)) h9b (λg hg h=>by have:=ay b6.out g hg;omega)
       .exact BtB.but (dn b9.out (by omega)) h9b (λg hg h=>by have:=ay b9.out g hg;omega)
      .have h6:=tf L.toNat 0 (by omega);have h7:((L.toNat:Int)!=0)=true:=by simp[bne,h6]
       have a8: ¬(L.toNat:Int)=0:=by omega
       have a7:=hid hL0;clear hL0
       have m5:(w5.setCell ⟨w1.heap.size,1,none⟩ (.slice (some ⟨gq,0,none⟩) RR c1)).ownsRow (w.heap.size+1+1+1+1) 5 1 (.slice (some ⟨gq,0,none⟩) RR c1) RR (aP (st.take RR)):=by
        have:=b6.out;unfold BtB at this;rw[b4.out]at this;exact this
       have q9:=hid m5;clear m5;go_wp2_with (at_builtin;refine wpList_append_lies _ rfl _ _ _ rfl (w.heap.size+1+1+1+1) 5 t0 _ 1 1 (by kernel_rfl) y1 y2 y3 y4 rfl (by omega) _ RR (aP (st.take RR)) rfl (q9.out.alloc _) ⟨w5.heap.size,0,none⟩ 1 1 [.int .u8 L.toNat] rfl rfl (fX (cs:=#[.int .u8 L.toNat]) (t:=5) (fr:=(0,0)) (aB r5.out _)) (by simp[Value.oneCell']) (by omega) (by unfold maxLen;omega) (by omega) (by simp;omega) (w5.heap.size+1) (by simp) ?_);intro gg cap3 w7 a4 a5 n6 v0;have g0:But (λk'=>(Value.slice (some ⟨gq,0,none⟩) RR c1).ownBlock=some k') (w5.setCell ⟨w1.heap.size,1,none⟩ (.slice (some ⟨gq,0,none⟩) RR c1)) w7:=(ag _ _ _).trans (bc a5)
       have hF: ∀k,k≠gq-> ¬(Value.slice (some ⟨gq,0,none⟩) RR c1).ownBlock=some k:=λk hk h=>hk (by injection h with h;exact h.symm)
       have o2:=e8 gq rfl;have o1:=ay b6.out gq rfl;have e4:=f3.out.next g0 (λk hk=>hF k (by omega));have g1:=(g0.block w1.heap.size (ae l3.out) (hF _ (by omega))).trans l3.out;have o3:=b9.out.but g0 (λg hg=>hF g (λh=>by have h1:=ay b9.out g hg;have h2:=i6 gq rfl;omega));have z9:=ay a4 gg rfl
       have s4:gg≠w1.heap.size:=λh=>by
        obtain h'|h':=n6
        .have h2:gq=gg:=Option.some.inj h';omega
        .omega
       clear b0 b1 b2 e0 e1 e2 r0 r1 r2 f0 f1 f2;obtain⟨b0,b1,b2⟩:=ia g1;obtain⟨e0,e1,e2⟩:=kI g1;obtain⟨r0,r1,r2⟩:=ia e4.res;obtain⟨f0,f1,f2⟩:=kI e4.res;have f7:But (· =w1.heap.size) w7 (w7.setCell ⟨w1.heap.size,1,none⟩ (.slice (some ⟨gg,0,none⟩) (RR+1) cap3)):=au w7 w1.heap.size 1 (.slice (some ⟨gg,0,none⟩) (RR+1) cap3);have n3:=e4.next f7 (λk hk h=>by omega);have o4:=o3.but f7 (λg hg h=>by have:=e7 g hg;omega)
       have n0:BtB (w7.setCell ⟨w1.heap.size,1,none⟩ (.slice (some ⟨gg,0,none⟩) (RR+1) cap3)) (w.heap.size+1+1+1+1) (.slice (some ⟨gg,0,none⟩) (st.take RR++ [L]).length cap3) (st.take RR++ [L]):=by
        unfold BtB;rw[aZ,b4.out,aP,List.map_append];exact aj a4 f7 (λg hg h=>by simp[Value.ownBlock]at hg;omega)
       have m1:=hid n3;have l4:=hid o4;have l6:=hid n0;have t5:=e4.gt;have t3:=ae g1;clear e4 g1 o3 g0 a5 a4 n6 f7 n3 o4 n0 hF;go_wp2_with fail;refine nr results174 rfl rfl rfl m1.out.res (λw9 h9 h9b=> ?_);have s2:(st.take RR++ [L]).length=RR+1:=by rw[aZ,b4.out];rfl
       refine⟨m1.out.but.next h9b (λk hk h=>by omega),Or.inr ⟨st.take RR++ [L],lo,some ⟨gg,0,none⟩,cap3,a2,c2,by rw[f5.out,if_neg a7.out],by rw[s2],?_,?_⟩⟩
       .exact BtB.but (dn l6.out (by omega)) h9b (λg hg h=>by have:=ay l6.out g hg;omega)
       .exact BtB.but (dn l4.out (by omega)) h9b (λg hg h=>by have:=ay l4.out g hg;omega)
end
end Go.Proofs.YtpfkkmacakjmbaaGreatDoor
