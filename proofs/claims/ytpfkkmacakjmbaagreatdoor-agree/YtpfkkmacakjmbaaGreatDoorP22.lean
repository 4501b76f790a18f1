import Derived.Test.YtpfkkmacakjmbaaGreatDoorP11
set_option maxRecDepth 100000
set_option maxHeartbeats 6400000
set_option linter.all false
namespace Go.Proofs.YtpfkkmacakjmbaaGreatDoor
open Proofs.Tryz
section
open Go Go.RowKit Sp
theorem iF {w:World} {base:Nat} {v:Value} {l:L_} (h:BtB w base v l):(convert 112 9 v).run prog w= .ok (.string ⟨l.toArray⟩) w:=by
 obtain⟨ao,cap,rfl⟩:=aA h
 cases ao with
 |none=>
  have hm:l.length=0:=by
   obtain h'|h':=Nat.eq_zero_or_pos l.length
   .exact h'
   .obtain⟨g,a,_⟩:=aL h h'
    cases a
  have c:l=[]:=List.length_eq_zero_iff.1 hm;subst c;have d:prog.underlying 112=some (.slice 5):=by kernel_rfl
  have f:prog.underlying 9=some .string:=by kernel_rfl
  have i:prog.underlying 5=some (.int .u8):=by kernel_rfl
  have n:=run_convert_bytes_string (P:=prog) w 112 9 5 none 0 cap d i f;refine n.trans ?_;simp[Conv.bytesToString]
  rfl
 |some ad=>
  refine(?_ :(convert 112 9 (.slice (some ad) l.length cap)).run prog w=_);refine run_convert_bytes_back w 112 9 5 ad cap l (by kernel_rfl) (by kernel_rfl) (by kernel_rfl) ?_;intro j k;obtain⟨g,a,p,q,hc⟩:=aL h (by omega);have b:=Option.some.inj a;rw[b];have m:=hc j _ (dR k);have e:(⟨g,0,none⟩:Addr).add j=⟨g,j,none⟩:=by simp[Addr.add];exact λh=>h.symm
  rw[e,m];simp[List.getD,k]
end
section
open Go Go.RowKit Sp
attribute [local go_sem ↓] eF eG
def xsV (kn:Bool) (vs vl:Value):Value:= .agg #[.bool kn,vs,vl]
theorem pu (bx:Nat) (kn:Bool) (aa al:Option Addr) (cs cl:Nat) (st lo:L_) (w:World) (hs:BtB w bx (.slice aa st.length cs) st) (hl:BtB w bx (.slice al lo.length cl) lo) (h1:st.length<=1000) (h2:lo.length<=1000):
  Calls prog 171 #[xsV kn (.slice aa st.length cs) (.slice al lo.length cl)] w λen w'=>B_ w w'/\ ∃a1 c1 s c2 B2,en= .returned (xsV kn (.slice a1 st.length c1) (.slice s lo.length c2))/\BtB w' w.heap.size (.slice a1 st.length c1) st/\BtB w' B2 (.slice s lo.length c2) lo/\w.heap.size<=B2/\(∀g,(Value.slice a1 st.length c1).ownBlock=some g->g<B2)/\(Value.slice a1 st.length c1).ownBlock≠none:=by
 unfold xsV;have y:B_ w ((w.alloc (.cells #[.bool kn,.slice aa st.length cs,.slice al lo.length cl] 117)).alloc (.cells #[.bool false,S_,S_] 117)):=(ag _ _ _).trans (ag _ _ _);have T:((w.alloc (.cells #[.bool kn,.slice aa st.length cs,.slice al lo.length cl] 117)).alloc (.cells #[.bool false,S_,S_] 117)).heap.size=w.heap.size+1+1:=by simp
 have M:((w.alloc (.cells #[.bool kn,.slice aa st.length cs,.slice al lo.length cl] 117)).alloc (.cells #[.bool false,S_,S_] 117)).heap[w.heap.size]?=some (.cells #[.bool kn,.slice aa st.length cs,.slice al lo.length cl] 117):=by
  rw[(ag (λ_=>False) (w.alloc (.cells #[.bool kn,.slice aa st.length cs,.slice al lo.length cl] 117)) (.cells #[.bool false,S_,S_] 117)).block w.heap.size (ae (bj w _)) (λh=>h)];exact bj w _
 have E:((w.alloc (.cells #[.bool kn,.slice aa st.length cs,.slice al lo.length cl] 117)).alloc (.cells #[.bool false,S_,S_] 117)).heap[w.heap.size+1]?=some (.cells #[.bool false,S_,S_] 117):=aw (by simp) _;have hE:=BtB.empty ((w.alloc (.cells #[.bool kn,.slice aa st.length cs,.slice al lo.length cl] 117)).alloc (.cells #[.bool false,S_,S_] 117));have d:B_ ((w.alloc (.cells #[.bool kn,.slice aa st.length cs,.slice al lo.length cl] 117)).alloc (.cells #[.bool false,S_,S_] 117)) (((w.alloc (.cells #[.bool kn,.slice aa st.length cs,.slice al lo.length cl] 117)).alloc (.cells #[.bool false,S_,S_] 117)).alloc (.cells #[] 5)):=ag _ _ _
 rw[T]at hE;have S:=(hs.but y (λ_ _ h=>h)).but d (λ_ _ h=>h);have O:=(hl.but y (λ_ _ h=>h)).but d (λ_ _ h=>h);have X:((w.alloc (.cells #[.bool kn,.slice aa st.length cs,.slice al lo.length cl] 117)).alloc (.cells #[.bool false,S_,S_] 117)).alloc (.cells #[] 5) |>.heap.size |> (w.heap.size+1+1<= ·):=by simp
 have HN:Hid ([]++st=st):=hid (by simp);have C:=hid (d.kp M);have D:=hid ((d.block (w.heap.size+1) (ae E) (λh=>h)).trans E);have a7:=y.trans d;clear M E y d T
 go_in
 go_wp2_with (at_builtin;refine bH rfl _ _ rfl (w.heap.size+1+1) bx _ _ [] st st HN rfl rfl hE S (by omega) X ?_);intro a1 c1 c Y t b1;have B:(Value.slice (some ⟨w.heap.size+1+1,0,none⟩) 0 0).ownBlock=some (w.heap.size+1+1):=rfl
 have Q:(Value.slice a1 st.length c1).ownBlock≠none:=λh=>by
  obtain h'|h':=b1<;>(rw[h]at h';cases h')
 have a4:=hid Q;clear Q;have G: ∀k,k<w.heap.size+1+1-> ¬(Value.slice (some ⟨w.heap.size+1+1,0,none⟩) 0 0).ownBlock=some k:=λk hk h=>by rw[B]at h;injection h with h;omega
 have n:=(t.block w.heap.size (ae C.out) (G _ (by omega))).trans C.out;have p:=(t.block (w.heap.size+1) (ae D.out) (G _ (by omega))).trans D.out;have P:=O.but t (λg hg=>G g (by have:=bB hl g hg;omega));have z:B_ w c:=a7.next t (λk hk h=>G k (by omega) h);have r:=bB Y;have F:=aC Y;have b6:=z.size;have a3:=ae p;have a0:w.heap.size<c.heap.size:=by omega
 have a8:=BtB.empty c;have x:B_ c (c.alloc (.cells #[] 5)):=ag _ _ _;have b0:=P.but x (λ_ _ h=>h);have b3:=Y.but x (λ_ _ h=>h);have b5:c.heap.size<=(c.alloc (.cells #[] 5)).heap.size:=x.size;have hq:=ce2 n;have Z:Hid ([]++lo=lo):=hid (by simp);have e:=hid n;have f:=hid p;have HF:=hid G;clear n p G B C D S O hE X Y P;go_wp2_with (at_builtin;refine bH rfl _ _ rfl c.heap.size bx _ _ [] lo lo Z rfl rfl a8 b0 (by omega) b5 ?_);intro s c2 b h5 J b2;have q:(Value.slice (some ⟨c.heap.size,0,none⟩) 0 0).ownBlock=some c.heap.size:=rfl;have m: ∀k,k<c.heap.size-> ¬(Value.slice (some ⟨c.heap.size,0,none⟩) 0 0).ownBlock=some k:=λk hk h=>by rw[q]at h;injection h with h;omega
 have j:But (λk=>(Value.slice (some ⟨c.heap.size,0,none⟩) 0 0).ownBlock=some k) c b:=(x.mono (λ_ _ h=>h.elim)).trans J;have A:=(j.block w.heap.size (ae e.out) (m _ (by omega))).trans e.out;have a:=(j.block (w.heap.size+1) (ae f.out) (m _ (by omega))).trans f.out;have b4:=b3.but J (λg hg=>m g (r g hg));have L:B_ w b:=z.next j (λk hk h=>m k (by omega) h);have I:=aC h5;have q0:=ce0 A;have y0:b.cell? ⟨w.heap.size+1,0,none⟩=some (.bool false):=by rw[bU b (w.heap.size+1) 0 _ _ (0,0) a];rfl
 have y1:b.cell? ⟨w.heap.size+1,1,none⟩=some S_:=by rw[bU b (w.heap.size+1) 1 _ _ (0,0) a];rfl
 have y2:b.cell? ⟨w.heap.size+1,2,none⟩=some S_:=by rw[bU b (w.heap.size+1) 2 _ _ (0,0) a];rfl
 have g0:b.frozen? ⟨w.heap.size+1,0,none⟩=false:=cw b (w.heap.size+1) 0 _ _ a;have g1:b.frozen? ⟨w.heap.size+1,1,none⟩=false:=cw b (w.heap.size+1) 1 _ _ a;have g2:b.frozen? ⟨w.heap.size+1,2,none⟩=false:=cw b (w.heap.size+1) 2 _ _ a;have H:=hid a;clear A a e f hq q m;go_wp2_with fail;have a5:=bS b (w.heap.size+1) 0 _ _ (.bool kn) H.out;have a6:=bS _ (w.heap.size+1) 1 _ _ (.slice a1 st.length c1) a5;have i:=bS _ (w.heap.size+1) 2 _ _ (.slice s lo.length c2) a6;have l:=((aq b (w.heap.size+1) 0 (.bool kn)).trans (aq _ (w.heap.size+1) 1 (.slice a1 st.length c1))).trans (aq _ (w.heap.size+1) 2 (.slice s lo.length c2))
 revert i l;generalize (((b.setCell ⟨w.heap.size+1,0,none⟩ (.bool kn)).setCell ⟨w.heap.size+1,1,none⟩ (.slice a1 st.length c1)).setCell ⟨w.heap.size+1,2,none⟩ (.slice s lo.length c2))=w6;intro i l;have r0:w6.cell? ⟨w.heap.size+1,0,none⟩=some (.bool kn):=by rw[bU w6 (w.heap.size+1) 0 _ _ (0,0) i];rfl
 have r1:w6.cell? ⟨w.heap.size+1,1,none⟩=some (.slice a1 st.length c1):=by rw[bU w6 (w.heap.size+1) 1 _ _ (0,0) i];rfl
 have r2:w6.cell? ⟨w.heap.size+1,2,none⟩=some (.slice s lo.length c2):=by rw[bU w6 (w.heap.size+1) 2 _ _ (0,0) i];rfl
 exact cU (v:= .agg #[.bool kn,.slice a1 st.length c1,.slice s lo.length c2]) (by simp[results,results171,go_sem,r0,r1,r2]) rfl
  ⟨L.next l (λk hk h=>by omega),a1,c1,s,c2,c.heap.size,rfl,BtB.but (dh b4 (by omega)) l (λg hg h=>by have:=F g hg;omega),BtB.but h5 l (λg hg h=>by have:=I g hg;omega),by omega,r,a4.out⟩
theorem su (aa al:Option Addr) (cs cl:Nat) (st lo:L_) (w:World) (hs:BtB w 0 (.slice aa st.length cs) st) (hl:BtB w 0 (.slice al lo.length cl) lo):
  Calls prog 173 #[.slice aa st.length cs,.slice al lo.length cl] w λen w'=>en= .returned (.bool (decide (st=lo)))/\w'=w:=by
 have a:=iF hs;have b:=iF hl
 go_in
 go_wp2_with fail;exact cU (v:= .bool (decide (st=lo))) (by simp[results,results173,go_sem];rw[Bool.eq_iff_iff];simp) rfl ⟨rfl,rfl⟩
def jN (cs:List bP) (st asked:L_):Bool:=(List.range asked.length).all λi=>cL cs (st.getD (st.length-asked.length+i) 0) (asked.getD i 0)
def tV (cs:List bP) (ms:List Sig) (x:XIt) (ans:UInt8) (st lo:L_):Option (L_×L_):=
 if st.length<(aB cs ms x.op x.cls x.num ans).length\/jN cs st (aB cs ms x.op x.cls x.num ans)=false then none else
 if x.op.toNat=115/\ ¬x.num<lo.length then none else
 if x.op.toNat=108/\(aH cs ms x.op x.cls x.num (if x.op.toNat=115 then lo.set x.num (st.getD (st.length-(aB cs ms x.op x.cls x.num ans).length) 0)else lo)).toNat=45 then none else
 some (st.take (st.length-(aB cs ms x.op x.cls x.num ans).length)++(if(aH cs ms x.op x.cls x.num (if x.op.toNat=115 then lo.set x.num (st.getD (st.length-(aB cs ms x.op x.cls x.num ans).length) 0)else lo)).toNat=0 then []else [aH cs ms x.op x.cls x.num (if x.op.toNat=115 then lo.set x.num (st.getD (st.length-(aB cs ms x.op x.cls x.num ans).length) 0)else lo)]),
  if x.op.toNat=115 then lo.set x.num (st.getD (st.length-(aB cs ms x.op x.cls x.num ans).length) 0)else lo)
structure BhW (w wx:World) (c r:UInt8) (m:Nat) (vl vi:Value) (pl nu:Nat) (op ic:UInt8) (pa:Option Addr) (pn pc:Nat):Prop where
 but:B_ w wx
 bod:wx.heap[w.heap.size]?=some (.cells #[.int .u8 c.toNat,.int .i64 m,.int .u8 r.toNat,vl,vi] 115)
 item:wx.heap[w.heap.size+1]?=some (.cells #[.int .i64 pl,.int .u8 op.toNat,.int .u8 ic.toNat,.int .i64 nu,.slice pa pn pc] 219)
 res:wx.heap[w.heap.size+1+1+1]?=some (.cells #[.bool false,S_,S_] 117)
section
variable {w w1 w2:World} {c r:UInt8} {m:Nat} {vl vi:Value} {pl nu:Nat} {op ic:UInt8} {pa:Option Addr} {pn pc:Nat}
theorem BhW.next {F:Nat->Prop} (h:BhW w w1 c r m vl vi pl nu op ic pa pn pc) (hb:But F w1 w2) (hF: ∀k,k<w.heap.size+4-> ¬F k):BhW w w2 c r m vl vi pl nu op ic pa pn pc:=
 ⟨h.but.next hb (λk hk hf=>hF k (by omega) hf),(hb.block _ (ae h.bod) (hF _ (by omega))).trans h.bod,(hb.block _ (ae h.item) (hF _ (by omega))).trans h.item,(hb.block _ (ae h.res) (hF _ (by omega))).trans h.res⟩
theorem BhW.gt (h:BhW w w1 c r m vl vi pl nu op ic pa pn pc):w.heap.size+3<w1.heap.size:=ae h.res
end
theorem lq {w:World} {g t:Nat} {x0 x1 x2:Value} (h:w.heap[g]?=some (.cells #[x0,x1,x2] t)):w.frozen? ⟨g,0,none⟩=false/\w.frozen? ⟨g,1,none⟩=false/\w.frozen? ⟨g,2,none⟩=false:=
 ⟨cw w g 0 _ _ h,cw w g 1 _ _ h,cw w g 2 _ _ h⟩
def DE (w:World) (g:Nat) (x0 x1 x2:Value):World:=((w.setCell ⟨g,0,none⟩ x0).setCell ⟨g,1,none⟩ x1).setCell ⟨g,2,none⟩ x2
theorem sw {w:World} {g t:Nat} {a0 a1 a2:Value} (h:w.heap[g]?=some (.cells #[a0,a1,a2] t)) (x0 x1 x2:Value):(DE w g x0 x1 x2).heap[g]?=some (.cells #[x0,x1,x2] t):=by
 have a:=bS w g 0 _ _ x0 h;have b:=bS _ g 1 _ _ x1 a;exact bS _ g 2 _ _ x2 b
theorem vD (w:World) (g:Nat) (x0 x1 x2:Value):But (· =g) w (DE w g x0 x1 x2):=((aq w g 0 x0).trans (aq _ g 1 x1)).trans (aq _ g 2 x2)
theorem oB {fn:Func} {R:Ending->World->Prop} {a:Act} {w:World} {c f g:Nat} {a0 a1 a2 x0 x1 x2:Value} {e:Bool} (hf:fn.results=#[.cell c 117,.tmp f]) (hd:a.defers=[]) (hc:a.tmps.getD c undef= .pointer (some ⟨g,0,none⟩)) (he:a.tmps.getD f undef= .bool e) (h:w.heap[g]?=some (.cells #[a0,a1,a2] 117)) (hR: ∀w9,w9.heap[g]?=some (.cells #[x0,x1,x2] 117)->But (· =g) w w9->R (.returned (.tuple #[.agg #[x0,x1,x2],.bool e])) w9):bodyPost prog fn R .ret a (((w.setCell ⟨g,0,none⟩ x0).setCell ⟨g,1,none⟩ x1).setCell ⟨g,2,none⟩ x2):=by
 have b:=sw h x0 x1 x2;have r0:=ce0 b;have j:=ce1 b;have k:=ce2 b;refine cU (v:= .tuple #[.agg #[x0,x1,x2],.bool e]) ?_ hd (hR _ b (vD w g x0 x1 x2));have d:a.tmps[c]?.getD undef= .pointer (some ⟨g,0,none⟩):=by simpa using hc
 have i:a.tmps[f]?.getD undef= .bool e:=by simpa using he
 unfold DE at r0 j k;simp[results,hf,d,i,go_sem,r0,j,k]
theorem BtB.pre {w:World} {base g cap n:Nat} {l:L_} (h:BtB w base (.slice (some ⟨g,0,none⟩) l.length cap) l) (hn:n<=l.length):BtB w base (.slice (some ⟨g,0,none⟩) (l.take n).length cap) (l.take n):=by
 have hl:(l.take n).length=n:=by simp;omega
 obtain⟨b,_⟩ | ⟨g',cap',cur,b,i,j,p,k,m,d⟩:=h.2
 .cases b
 .have e:cap=cap':=congrArg (λv=>match v with|Value.slice _ _ c=>c|_=>0) b
  have f:g=g':=by
   have:=congrArg (λv=>match v with|Value.slice (some a) _ _=>a.block|_=>0) b;exact this
  subst e f;refine⟨by simp[aU],Or.inr ⟨g,cap,cur,by rw[hl],i,j,by rw[hl];omega,k,m,?_⟩⟩;rw[hl];simp only[Nat.mul_one]at d⊢;have:cur.toList.take n=(cur.toList.take l.length).take n:=by rw[List.take_take,Nat.min_eq_left hn]
  rw[this,d];simp[aU,List.map_take]
theorem BtB.cap {w:World} {base cap:Nat} {ao:Option Addr} {l:L_} (h:BtB w base (.slice ao l.length cap) l):l.length<=cap:=by
 obtain⟨a,e⟩ | ⟨g',cap',cur,a,_,_,d,_⟩:=h.2
 .omega
 .have b:cap=cap':=congrArg (λv=>match v with|Value.slice _ _ c=>c|_=>0) a;rw[b];exact d
theorem BtB.put {w:World} {base g cap k:Nat} {l:L_} (h:BtB w base (.slice (some ⟨g,0,none⟩) l.length cap) l) (c:UInt8):BtB (w.setCell ⟨g,k,none⟩ (.int .u8 c.toNat)) base (.slice (some ⟨g,0,none⟩) l.length cap) (l.set k c):=by
 obtain⟨b,_⟩ | ⟨g',cap',cur,b,i,j,m,n,p,d⟩:=h.2
 .cases b
 .have e:cap=cap':=congrArg (λv=>match v with|Value.slice _ _ c=>c|_=>0) b;have f:g=g':=congrArg (λv=>match v with|Value.slice (some a) _ _=>a.block|_=>0) b;subst e f;refine⟨by simp[aU],Or.inr ⟨g,cap,cur.setIfInBounds k (.int .u8 c.toNat),by simp,i,bS w g k _ _ _ j,by simpa using m,n,by simpa using p,?_⟩⟩;simp only[Nat.mul_one,List.length_set]at d⊢;rw[Array.toList_setIfInBounds,List.take_set,d];simp[aU,List.map_set]
theorem BtB.row {w:World} {base g cap:Nat} {n:Nat} {l:L_} (h:BtB w base (.slice (some ⟨g,0,none⟩) n cap) l): ∃cur,w.heap[g]?=some (.cells cur 5):=by
 obtain⟨b,_⟩ | ⟨g',cap',cur,b,e,d,_⟩:=h.2
 .cases b
 .have c:g=g':=congrArg (λv=>match v with|Value.slice (some a) _ _=>a.block|_=>0) b;subst c;exact⟨cur,d⟩
theorem xK (cs:List bP) (ms:List Sig) (c k:UInt8) (n:Nat) (ans:UInt8):(aB cs ms c k n ans).length<=2:=by
 unfold aB
 repeat' split
 all_goals simp
theorem vE (b:Nat) (cs:List bP) (ms:List Sig) (c r:UInt8) (m:Nat) (vl vi:Value) (x:XIt) (aa al:Option Addr) (ca cl:Nat) (st lo:L_) (w:World) (hn:cs.length<=100) (hm:ms.length<=100) (hT:TxC w b cs) (hM:TxM w b ms)
  (hvl:vl.oneCell'=true) (hvi:vi.oneCell'=true) (hs:BtB w 0 (.slice aa st.length ca) st) (hl:BtB w 0 (.slice al lo.length cl) lo) (h1:st.length<=200) (h2:lo.length<=200):
  Calls prog 174 #[.pointer (some ⟨b,0,none⟩),hdV c m r vl vi,itV x,xsV true (.slice aa st.length ca) (.slice al lo.length cl)] w λen w'=>B_ w w'/\
   ((tV cs ms x r st lo=none/\en= .returned (.tuple #[xsV false S_ S_,.bool false]))\/
    (∃st' lo' a1 c1 a2 c2,tV cs ms x r st lo=some (st',lo')/\en= .returned (.tuple #[xsV true (.slice a1 (List.length st') c1) (.slice a2 (List.length lo') c2),.bool true])/\BtB w' w.heap.size (.slice a1 st'.length c1) st'/\BtB w' w.heap.size (.slice a2 lo'.length c2) lo')):=by
 obtain⟨pl,op,ic,nu,pa,pn,pc⟩:=x;obtain⟨t0,t6,v0,v1,v2⟩:=info_parts kL;unfold hdV itV xsV
 have m2:BhW w ((((w.alloc (.cells #[.int .u8 c.toNat,.int .i64 m,.int .u8 r.toNat,vl,vi] 115)).alloc (.cells #[.int .i64 pl,.int .u8 op.toNat,.int .u8 ic.toNat,.int .i64 nu,.slice pa pn pc] 219)).alloc (.cells #[.bool true,.slice aa st.length ca,.slice al lo.length cl] 117)).alloc (.cells #[.bool false,S_,S_] 117)) c r m vl vi pl nu op ic pa pn pc:=by
  refine⟨(((ag _ _ _).trans (ag _ _ _)).trans (ag _ _ _)).trans (ag _ _ _),?_,?_,aw (by simp) _⟩
  .rw[Below.heap_alloc _ _ _ (by simp;omega),Below.heap_alloc _ _ _ (by first| (simp;done) | (simp;omega)),Below.heap_alloc _ _ _ (by first| (simp;done) | (simp;omega))];exact bj w _
  .rw[Below.heap_alloc _ _ _ (by simp),Below.heap_alloc _ _ _ (by simp)];exact aw (by simp) _
 have t5:=hs.but m2.but (λ_ _ h=>h);have s9:=hl.but m2.but (λ_ _ h=>h);have r4:=hid m2;have n6:=hid (pu 0 true aa al ca cl st lo _ t5 s9 (by omega) (by omega));have v5:((((w.alloc (.cells #[.int .u8 c.toNat,.int .i64 m,.int .u8 r.toNat,vl,vi] 115)).alloc (.cells #[.int .i64 pl,.int .u8 op.toNat,.int .u8 ic.toNat,.int .i64 nu,.slice pa pn pc] 219)).alloc (.cells #[.bool true,.slice aa st.length ca,.slice al lo.length cl] 117)).alloc (.cells #[.bool false,S_,S_] 117)).heap.size=w.heap.size+1+1+1+1:=by simp
 have r8:=hid v5;clear m2 t5 s9 v5;unfold xsV at n6
 go_in
 go_wp2_with fail;refine n6.out.mono ?_;rintro en w1 ⟨s1,a1,c1,a2,c2,G2,rfl,l4,p8,v9,e7,q5⟩;have h8:=r4.out.next s1 (λ_ _ h=>h);rw[r8.out]at l4 v9
 obtain⟨gq,x4⟩: ∃gq,a1=some ⟨gq,0,none⟩:=by
  obtain⟨h,_⟩ | ⟨g,cap,cur,h,_⟩:=l4.2
  .rw[h]at q5;exact absurd rfl q5
  .exact⟨g,congrArg (λv=>match v with|Value.slice a _ _=>a|_=>none) h⟩
 subst x4;clear q5;clear n6 r4 r8 s1;have x6:=h8.gt;have P:B_ w1 (w1.alloc (.cells #[.bool true,.slice (some ⟨gq,0,none⟩) st.length c1,.slice a2 lo.length c2] 117)):=ag _ _ _;have m3:=bj w1 (.cells #[.bool true,.slice (some ⟨gq,0,none⟩) st.length c1,.slice a2 lo.length c2] 117);have f8:=h8.next P (λ_ _ h=>h);have n3:=l4.but P (λ_ _ h=>h);have n1:=p8.but P (λ_ _ h=>h);have a5:=bB l4;have a4:=bB p8;obtain⟨i0,i1,i2,i3,i4⟩:=bI h8.item;obtain⟨d0,d1,d2,d3,d4⟩:=bI h8.bod;have l0:w.heap.size<w1.heap.size:=by omega
 have l1:w.heap.size+1<w1.heap.size:=by omega
 clear h8 l4 p8;go_wp2_with fail;revert P m3 f8 n3 n1;generalize (w1.alloc (.cells #[.bool true,.slice (some ⟨gq,0,none⟩) st.length c1,.slice a2 lo.length c2] 117))=w2;intro P m3 f8 n3 n1;have n8:=hid (mX (ap:=pa) (np:=pn) (cp:=pc) b cs ms pl nu op ic r w2 hn hm (hT.but f8.but) (hM.but f8.but));have w8:=xK cs ms op ic nu r
 have q7:Hid (∀T,aB cs ms op ic nu r=T->tV cs ms ⟨pl,op,ic,nu,pa,pn,pc⟩ r st lo=
   if st.length<T.length\/jN cs st T=false then none else
   if op.toNat=115/\ ¬nu<lo.length then none else
   if op.toNat=108/\(aH cs ms op ic nu (if op.toNat=115 then lo.set nu (st.getD (st.length-T.length) 0)else lo)).toNat=45 then none else
   some (st.take (st.length-T.length)++(if(aH cs ms op ic nu (if op.toNat=115 then lo.set nu (st.getD (st.length-T.length) 0)else lo)).toNat=0 then []else [aH cs ms op ic nu (if op.toNat=115 then lo.set nu (st.getD (st.length-T.length) 0)else lo)]),
    if op.toNat=115 then lo.set nu (st.getD (st.length-T.length) 0)else lo)):=hid (λT h=>by subst h;rfl)
 obtain⟨T,m1⟩: ∃T,aB cs ms op ic nu r=T:=⟨_,rfl⟩;have d6:=hid (q7.out T m1);have b7:op.toNat=115->0<T.length:=λh=>by rw[<-m1];simp[aB,h]
 have g7:=hid b7;clear b7;rw[m1]at n8 w8;clear q7 m1;refine n8.out.mono ?_;rintro en w3 ⟨h5,v3,rfl,s0⟩;obtain⟨a3,c3,y3⟩:=aA s0;subst y3;clear n8;have i5:=f8.next h5 (λ_ _ h=>h);have y2:=n3.but h5 (λ_ _ h=>h);have x9:=n1.but h5 (λ_ _ h=>h);have m4:=h5.kp m3;have p2:=ae m4;have y4:=h5.size;obtain⟨b0,b1,b2⟩:=iD m4;obtain⟨i0,i1,i2,i3,i4⟩:=bI i5.item;obtain⟨r0,r1,r2⟩:=iD i5.res;obtain⟨f0,f1,f2⟩:=lq i5.res;have n9:=hid i5;have v7:=hid m4;clear f8 n3 n1 m3 P m4 i5 d0 d1 d2 d3 d4
 by_cases hlen:st.length<T.length
 .have y1:(st.length:Int)-(T.length:Int)<0:=by omega
  have hN:tV cs ms ⟨pl,op,ic,nu,pa,pn,pc⟩ r st lo=none:=by rw[d6.out,if_pos (Or.inl hlen)]
  have HN:=hid hN;clear hN d6;go_wp2_with fail;refine oB results174 rfl rfl rfl n9.out.res (λw9 h9 h9b=> ?_);exact⟨n9.out.but.next h9b (λk hk h=>by omega),Or.inl ⟨HN.out,rfl⟩⟩
 .obtain⟨RR,o4⟩: ∃RR,st.length-T.length=RR:=⟨_,rfl⟩;rw[o4]at d6;have t4:(st.length:Int)-(T.length:Int)=(RR:Int):=by omega
  have z3:RR+T.length<=st.length:=by omega
  have q9:=hid o4;have y6: ¬(RR:Int)<0:=by omega
  clear o4;go_wp2_with fail
  go_loopg [13] T.length (λmm is wr=> ∃k:Nat,is= .int .i64 k/\k<=T.length/\k+mm<=T.length/\T.length<=k+mm/\B_ w3 wr/\Hid (∀i,i<k->cL cs (st.getD (RR+i) 0) (T.getD i 0)=true))
  case atStart=>exact⟨0,rfl,by omega,by omega,by omega,cq _ _,λi hi=>absurd hi (by omega)⟩
  case round=>
   obtain⟨k,rfl,z4,x7,z5,e6,HA⟩:=hrel;clear x7;have i7:=n9.out.next e6 (λ_ _ h=>h);have g1:=y2.but e6 (λ_ _ h=>h);have f4:=x9.but e6 (λ_ _ h=>h);have o1:=s0.but e6 (λ_ _ h=>h);have m5:=(e6.block w1.heap.size p2 (λh=>h)).trans v7.out;have z8:=e6.size;have a0:=ae m5;clear b0 b1 b2 i0 i1 i2 i3 i4 r0 r1 r2 f0 f1 f2;obtain⟨b0,b1,b2⟩:=iD m5;obtain⟨i0,i1,i2,i3,i4⟩:=bI i7.item;obtain⟨r0,r1,r2⟩:=iD i7.res;obtain⟨f0,f1,f2⟩:=lq i7.res;have B:=hid i7;have l6:=hid m5;clear i7 m5
   by_cases hlt:k<T.length
   .have x8:(k:Int)<(T.length:Int):=by omega
    have w0:RR+k<st.length:=by omega
    obtain⟨gs,n0,f3,_,j3⟩:=aL g1 (by omega);obtain⟨ga,x0,o6,_,s4⟩:=aL o1 (by omega);have q1:=j3 _ _ (dR w0);have q2:=s4 _ _ (dR hlt);have y7:((RR+k:Nat):Int)<(st.length:Int):=by omega
    have e9:gs=gq:=by have:=Option.some.inj n0;injection this with h;exact h.symm
    subst e9 x0;have b4:=hid (λ(h:cL cs (st.getD (RR+k) 0) (T.getD k 0)=true)=>(λi (hi:i<k+1)=>if hik:i=k then(by rw[hik];exact h)else HA.out i (by omega): ∀i,i<k+1->cL cs (st.getD (RR+i) 0) (T.getD i 0)=true))
    have b3:=hid (λ(h:cL cs (st.getD (RR+k) 0) (T.getD k 0)=false)=>(show jN cs st T=false from by
     unfold jN;rw[List.all_eq_false];exact⟨k,List.mem_range.2 hlt,by rw[q9.out,h];simp⟩))
    clear j3 s4 HA;revert q1 q2 b4 b3;generalize st.getD (RR+k) 0=y;generalize T.getD k 0=z;intro q1 q2 b4 b3;go_wp2_with fail;have b6:B_ wr wr.drew:=aD _ _;have r3:=hid (qn b cs y z wr.drew hn ((hT.but B.out.but).but b6));have y9:(RR:Int)+(k:Int)<(st.length:Int):=by omega
    have z0:(0:Int)<=(RR:Int)+(k:Int):=by omega
    have z1:((RR:Int)+(k:Int)).toNat=RR+k:=by omega
    have z2:IntKind.i64.wrap ((RR:Int)+(k:Int))=(RR:Int)+(k:Int):=dV _ (by omega) (by omega);refine aF (B_ wr) 14 ?_
    iterate 12 (refine aN (v:=?_) rfl b6 ?_ ?_;rotate_left;(focus (intro wS h;have q0:=(h.kc b1 a0);have q1:=(h.kc q1 f3);have q2:=(h.kc q2 o6);clear h;go_simp;try rfl));dsimp only[Act.put];try simp only[bW])
    refine au rfl ?_;intro KS hKS;go_simp;refine r3.out.mono ?_;rintro en wx ⟨rfl,v4⟩;rw[v4];clear v4 wx r3;refine hKS.out _ _ (λ_=>b6) ?_;clear hKS KS;refine au rfl ?_;intro KS hKS;go_simp;refine hKS.out _ _ (λ_=>b6) ?_;clear hKS KS;refine aK rfl ?_;have g0:=B.out.next b6 (λ_ _ h=>h);have o2:=e6.trans b6;clear b0 b1 b2 i0 i1 i2 i3 i4 r0 r1 r2 f0 f1 f2 q1 q2;revert g0 o2;generalize wr.drew=wd;intro g0 o2;obtain⟨r0,r1,r2⟩:=iD g0.res;obtain⟨f0,f1,f2⟩:=lq g0.res;revert b4 b3
    cases cL cs y z with
    |true=>
     intro b4 b3;have n5:=hid (b4.out rfl);clear b4 b3;go_wp2_with fail
     go_roundg (T.length-(k+1))
     case measure=>omega
     case rel=>exact⟨k+1,by simp,by omega,by omega,by omega,o2,n5.out⟩
    |false=>
     intro b4 b3;have hN:tV cs ms ⟨pl,op,ic,nu,pa,pn,pc⟩ r st lo=none:=by rw[d6.out,if_pos (Or.inr (b3.out rfl))]
     have HN:=hid hN;have r5:=hid g0;clear hN d6 b4 b3 g0;go_wp2_with fail;refine oB results174 rfl rfl rfl r5.out.res (λw9 h9 h9b=> ?_);exact⟨r5.out.but.next h9b (λk hk h=>by omega),Or.inl ⟨HN.out,rfl⟩⟩
   .have x8: ¬(k:Int)<(T.length:Int):=by omega
    have j0:jN cs st T=true:=by
     unfold jN;rw[List.all_eq_true];intro i hi;rw[q9.out];exact HA.out i (by have:=List.mem_range.1 hi;omega)
    have P:=d6.out;rw[if_neg (by rw[j0];simp;omega)]at P;have f6:=hid P;clear j0 P d6 HA
    by_cases h115:op.toNat=115
    .have h4:((op.toNat:Int)==115)=true:=by rw[dS];omega
     have s2:=g7.out h115
     by_cases hnu:nu<lo.length
     .have y0:(nu:Int)<(lo.length:Int):=by omega
      have d:=f6.out;rw[if_neg (λh=>h.2 hnu)]at d;simp only[if_pos h115]at d;have M:=hid d;have c6:=hid h115;clear d f6 h115;go_wp2_with fail;obtain⟨gl,x2,x3,p1,hcl⟩:=aL f4 (by omega);subst x2;obtain⟨cur,j4⟩:=BtB.row f4;have fz:=cw wr gl nu _ _ j4;have ql:=hcl _ _ (dR hnu);obtain⟨gs,n0,f3,_,j3⟩:=aL g1 (by omega);have e9:gs=gq:=by have:=Option.some.inj n0;injection this with h;exact h.symm
      subst e9;have w4:RR<st.length:=by omega
      have w6:(RR:Int)<(st.length:Int):=by omega
      have q1:=j3 _ _ (dR w4);have f5:aH cs ms op ic nu (lo.set nu (st.getD RR 0))=0:=by simp[aH,c6.out]
      have d:=M.out;rw[f5]at d;simp only[show¬(op.toNat=108/\(0:UInt8).toNat=45)from λh=>by have:=c6.out;omega,if_false,show(0:UInt8).toNat=0 from rfl,if_true,List.append_nil]at d;have S:=hid d;have m0:=hid f5;clear d M f5 hcl j3 j4 o1 n0;revert q1 S m0;generalize st.getD RR 0=y;intro q1 S m0;have b6:B_ wr wr.drew:=aD _ _;have t3:=a4 gl rfl;have x5:=e7 gs rfl;have s5:G2<=gl:=p1;have s6:gl≠w.heap.size+1:=by omega
      refine aF (B_ wr) 9 ?_
      iterate 9 (refine aN (v:=?_) rfl b6 ?_ ?_;rotate_left;(focus (intro wS h;have Q0:=(h.kc b1 a0);have Q1:=(h.kc b2 a0);have Q2:=(h.kc i3 (ae B.out.item));have Q3:=(h.kc q1 f3);clear h;go_simp;try rfl));dsimp only[Act.put];try simp only[bW])
      refine au rfl ?_;intro KS hKS;go_simp;refine hKS.out _ _ nofun ?_;clear hKS KS;refine au rfl ?_;intro KS hKS;go_simp;refine hKS.out _ _ nofun ?_;clear hKS KS;refine aK rfl ?_;have o3:But (· =gl) wr (wr.setCell ⟨gl,nu,none⟩ (.int .u8 y.toNat)).drew:=(aq _ _ _ _).trans (aD _ _);have e8:=B.out.next o3 (λk hk h=>by omega);have q6:=g1.but o3 (λg hg h=>by have h2:gs=g:=Option.some.inj hg;omega);have n2:=(f4.put (k:=nu) y).but (aD (λ_=>False) _) (λ_ _ h=>h);have Q:=(o3.block w1.heap.size a0 (by omega)).trans l6.out;clear b0 b1 b2 i0 i1 i2 i3 i4 r0 r1 r2 f0 f1 f2 g1 f4 B l6 fz ql q1;revert e8 q6 n2 Q
      generalize (wr.setCell ⟨gl,nu,none⟩ (.int .u8 y.toNat)).drew=wq;intro e8 q6 n2 Q;obtain⟨b0,b1,b2⟩:=iD Q;obtain⟨i0,i1,i2,i3,i4⟩:=bI e8.item;have a6:(lo.set nu y).length=lo.length:=by simp
      have p5:=ae Q;have q4:=ik (ap:=pa) (np:=pn) (cp:=pc) b cs ms pl nu op ic (some ⟨gl,0,none⟩) c2 (lo.set nu y) wq hn hm (hT.but e8.but) (hM.but e8.but) (by rw[a6];exact dh n2 (Nat.zero_le _));rw[a6,m0.out]at q4;have v8:=hid q4;have g5:=hid a6;have r6:=hid e8;have q8:=hid Q;clear q4 a6 e8 Q m0;go_wp2_with fail;refine v8.out.mono ?_;rintro en q ⟨rfl,X⟩;have F:=r6.out.next X (λ_ _ h=>h);have J:=q6.but X (λ_ _ h=>h);have a8:=n2.but X (λ_ _ h=>h);have H:=(X.block w1.heap.size p5 (λh=>h)).trans q8.out;have p3:=ae H;clear b0 b1 b2 i0 i1 i2 i3 i4;obtain⟨b0,b1,b2⟩:=iD H;obtain⟨e0,e1,e2⟩:=lq H
      obtain⟨i0,i1,i2,i3,i4⟩:=bI F.item;obtain⟨r0,r1,r2⟩:=iD F.res;obtain⟨f0,f1,f2⟩:=lq F.res;have f7:=hid F;have g2:=hid H;have h3:((op.toNat:Int)==108)=false:=by rw[fh];have:=c6.out;omega
      clear F H r6 q8 h4;have j2:=J.cap;have s3:(RR:Int)<=(c1:Int):=by omega
      have f:But (· =w1.heap.size) q (q.setCell ⟨w1.heap.size,1,none⟩ (.slice (some ⟨gs,0,none⟩) RR c1)):=aq q w1.heap.size 1 (.slice (some ⟨gs,0,none⟩) RR c1);have b8:=f7.out.next f (λk hk h=>by omega);have E:(st.take RR).length=RR:=by simp;omega
      have b5:=J.pre (n:=RR) (by omega);have D:=b5.but f (λg hg h=>by have:=a5 g hg;omega);have b9:=a8.but f (λg hg h=>by have h2:gl=g:=Option.some.inj hg;omega);have l:=hid E;rw[E]at D;have p:=hid D;have s:=hid b9;have O:=hid b8;clear f b8 b5 D b9 E;go_wp2_with fail;refine oB results174 rfl rfl rfl O.out.res (λw9 h9 h9b=> ?_);refine⟨O.out.but.next h9b (λk hk h=>by omega),Or.inr ⟨st.take RR,lo.set nu y,some ⟨gs,0,none⟩,c1,some ⟨gl,0,none⟩,c2,by rw[S.out,if_neg (λh=>absurd h.2 (by decide))],by rw[l.out,g5.out],?_,?_⟩⟩
      .rw[l.out];exact BtB.but (dh p.out (by omega)) h9b (λg hg h=>by have:=aC p.out g hg;omega)
      .rw[g5.out];exact BtB.but (dh s.out (by omega)) h9b (λg hg h=>by have h2:gl=g:=Option.some.inj hg;omega)
     .have y0: ¬(nu:Int)<(lo.length:Int):=by omega
      have hN:tV cs ms ⟨pl,op,ic,nu,pa,pn,pc⟩ r st lo=none:=by rw[f6.out,if_pos ⟨h115,hnu⟩]
      have HN:=hid hN;clear hN f6 h115;go_wp2_with fail;refine oB results174 rfl rfl rfl B.out.res (λw9 h9 h9b=> ?_);exact⟨B.out.but.next h9b (λk hk h=>by omega),Or.inl ⟨HN.out,rfl⟩⟩
    .have h4:=tf op.toNat 115 (by omega);have d:=f6.out;rw[if_neg (λh=>h115 h.1)]at d;simp only[if_neg h115]at d;have M:=hid d;clear d f6;go_wp2_with fail;refine(ik (ap:=pa) (np:=pn) (cp:=pc) b cs ms pl nu op ic a2 c2 lo wr hn hm (hT.but B.out.but) (hM.but B.out.but) (dh f4 (Nat.zero_le _))).mono ?_;rintro en q ⟨rfl,X⟩;obtain⟨L,hL⟩: ∃L,aH cs ms op ic nu lo=L:=⟨_,rfl⟩;rw[hL];rw[hL]at M;clear hL;have F:=B.out.next X (λ_ _ h=>h);have J:=g1.but X (λ_ _ h=>h);have a8:=f4.but X (λ_ _ h=>h);have H:=(X.block w1.heap.size a0 (λh=>h)).trans l6.out;have p3:=ae H;clear b0 b1 b2 i0 i1 i2 i3 i4 r0 r1 r2 f0 f1 f2 g1 f4 o1
     obtain⟨b0,b1,b2⟩:=iD H;obtain⟨e0,e1,e2⟩:=lq H;obtain⟨i0,i1,i2,i3,i4⟩:=bI F.item;obtain⟨r0,r1,r2⟩:=iD F.res;obtain⟨f0,f1,f2⟩:=lq F.res;have f7:=hid F;have g2:=hid H;clear F H B l6
     by_cases h108:op.toNat=108
     .have h3:((op.toNat:Int)==108)=true:=by rw[dS];omega
      by_cases h45:L.toNat=45
      .have eL:((L.toNat:Int)==45)=true:=by rw[dS];omega
       have hN:tV cs ms ⟨pl,op,ic,nu,pa,pn,pc⟩ r st lo=none:=by rw[M.out,if_pos ⟨h108,h45⟩]
       have HN:=hid hN;clear hN M h108 h45 h115;go_wp2_with fail;refine oB results174 rfl rfl rfl f7.out.res (λw9 h9 h9b=> ?_);exact⟨f7.out.but.next h9b (λk hk h=>by omega),Or.inl ⟨HN.out,rfl⟩⟩
      .have eL:=tf L.toNat 45 (by omega);have e5:=M.out;rw[if_neg (λh=>h45 h.2)]at e5;have S:=hid e5;clear e5 h108 h45 h115;have j2:=J.cap;have s3:(RR:Int)<=(c1:Int):=by omega
       have f:But (· =w1.heap.size) q (q.setCell ⟨w1.heap.size,1,none⟩ (.slice (some ⟨gq,0,none⟩) RR c1)):=aq q w1.heap.size 1 (.slice (some ⟨gq,0,none⟩) RR c1);have b8:=f7.out.next f (λk hk h=>by omega);have j5:=bS q w1.heap.size 1 _ _ (.slice (some ⟨gq,0,none⟩) RR c1) g2.out;have E:(st.take RR).length=RR:=by simp;omega
       have b5:=J.pre (n:=RR) (by omega);have D:=b5.but f (λg hg h=>by have:=a5 g hg;omega);have b9:=a8.but f (λg hg h=>by have:=a4 g hg;omega);have l5:(q.setCell ⟨w1.heap.size,1,none⟩ (.slice (some ⟨gq,0,none⟩) RR c1)).heap.size=q.heap.size:=cJ _ _ _;have l:=hid E;rw[E]at D;have p:=hid D;have s:=hid b9;have O:=hid b8;have g3:=hid j5;have v6:=hid f;have o0:=hid l5;have y5:=ae g2.out;clear f b8 j5 b5 D b9 E l5 M
       by_cases hL0:L.toNat=0
       .have e3:((L.toNat:Int)==0)=true:=by rw[dS];omega
        have e4:((L.toNat:Int)!=0)=false:=by simp[bne,e3]
        have C:(L.toNat:Int)=0:=by omega
        have n4:=hid C;clear C;have A:=hid hL0;clear hL0;go_wp2_with fail;refine oB results174 rfl rfl rfl O.out.res (λw9 h9 h9b=> ?_);refine⟨O.out.but.next h9b (λk hk h=>by omega),Or.inr ⟨st.take RR,lo,some ⟨gq,0,none⟩,c1,a2,c2,by rw[S.out,if_pos A.out,List.append_nil],by rw[l.out],?_,?_⟩⟩
        .rw[l.out];exact BtB.but (dh p.out (by omega)) h9b (λg hg h=>by have:=aC p.out g hg;omega)
        .exact BtB.but (dh s.out (by omega)) h9b (λg hg h=>by have:=aC s.out g hg;omega)
       .have e3:=tf L.toNat 0 (by omega);have e4:((L.toNat:Int)!=0)=true:=by simp[bne,e3]
        have C: ¬(L.toNat:Int)=0:=by omega
        have A:=hid hL0;clear hL0
        have h6:(q.setCell ⟨w1.heap.size,1,none⟩ (.slice (some ⟨gq,0,none⟩) RR c1)).ownsRow (w.heap.size+1+1+1+1) 5 1 (.slice (some ⟨gq,0,none⟩) RR c1) RR (aU (st.take RR)):=by
         have:=p.out;unfold BtB at this;rw[l.out]at this;exact this
        have n7:=hid h6;clear h6;go_wp2_with (at_builtin;refine wpList_append_lies _ rfl _ _ _ rfl (w.heap.size+1+1+1+1) 5 t0 _ 1 1 (by kernel_rfl) t6 v0 v1 v2 rfl (by omega) _ RR (aU (st.take RR)) rfl (n7.out.alloc _) ⟨q.heap.size,0,none⟩ 1 1 [.int .u8 L.toNat] rfl rfl (iO (cs:=#[.int .u8 L.toNat]) (t:=5) (fr:=(0,0)) (aw o0.out _)) (by simp[Value.oneCell']) (by omega) (by unfold maxLen;omega) (by omega) (by simp;omega) (q.heap.size+1) (by simp) ?_);intro gg e w7 j I j1 q3;have Z:But (λk'=>(Value.slice (some ⟨gq,0,none⟩) RR c1).ownBlock=some k') (q.setCell ⟨w1.heap.size,1,none⟩ (.slice (some ⟨gq,0,none⟩) RR c1)) w7:=(ag _ _ _).trans (bD I)
        have hF: ∀k,k≠gq-> ¬(Value.slice (some ⟨gq,0,none⟩) RR c1).ownBlock=some k:=λk hk h=>hk (by injection h with h;exact h.symm)
        have k0:=a5 gq rfl;have j7:=aC p.out gq rfl;have G:=O.out.next Z (λk hk=>hF k (by omega));have a7:=(Z.block w1.heap.size (ae g3.out) (hF _ (by omega))).trans g3.out;have k9:=s.out.but Z (λg hg=>hF g (λh=>by have h1:=aC s.out g hg;have h2:=e7 gq rfl;omega));have x1:=aC j gg rfl
        have p0:gg≠w1.heap.size:=λh=>by
         obtain h'|h':=j1
         .have h2:gq=gg:=Option.some.inj h';omega
         .omega
        clear b0 b1 b2 e0 e1 e2 r0 r1 r2 f0 f1 f2;obtain⟨b0,b1,b2⟩:=iD a7;obtain⟨e0,e1,e2⟩:=lq a7;obtain⟨r0,r1,r2⟩:=iD G.res;obtain⟨f0,f1,f2⟩:=lq G.res;have Y:But (· =w1.heap.size) w7 (w7.setCell ⟨w1.heap.size,1,none⟩ (.slice (some ⟨gg,0,none⟩) (RR+1) e)):=aq w7 w1.heap.size 1 (.slice (some ⟨gg,0,none⟩) (RR+1) e);have i6:=G.next Y (λk hk h=>by omega);have l3:=k9.but Y (λg hg h=>by have:=a4 g hg;omega)
        have h7:BtB (w7.setCell ⟨w1.heap.size,1,none⟩ (.slice (some ⟨gg,0,none⟩) (RR+1) e)) (w.heap.size+1+1+1+1) (.slice (some ⟨gg,0,none⟩) (st.take RR++ [L]).length e) (st.take RR++ [L]):=by
         unfold BtB;rw[aV,l.out,aU,List.map_append];exact ah j Y (λg hg h=>by simp[Value.ownBlock]at hg;omega)
        have h0:=hid i6;have g4:=hid l3;have g6:=hid h7;have p6:=G.gt;have p4:=ae a7;clear G a7 k9 Z I j j1 Y i6 l3 h7 hF;go_wp2_with fail;refine oB results174 rfl rfl rfl h0.out.res (λw9 h9 h9b=> ?_);have o5:(st.take RR++ [L]).length=RR+1:=by rw[aV,l.out];rfl
        refine⟨h0.out.but.next h9b (λk hk h=>by omega),Or.inr ⟨st.take RR++ [L],lo,some ⟨gg,0,none⟩,e,a2,c2,by rw[S.out,if_neg A.out],by rw[o5],?_,?_⟩⟩
        .exact BtB.but (dh g6.out (by omega)) h9b (λg hg h=>by have:=aC g6.out g hg;omega)
        .exact BtB.but (dh g4.out (by omega)) h9b (λg hg h=>by have:=aC g4.out g hg;omega)
     .have h3:=tf op.toNat 108 (by omega);have e5:=M.out;rw[if_neg (λh=>h108 h.1)]at e5;have S:=hid e5;clear e5 h108 h115;have j2:=J.cap;have s3:(RR:Int)<=(c1:Int):=by omega
      have f:But (· =w1.heap.size) q (q.setCell ⟨w1.heap.size,1,none⟩ (.slice (some ⟨gq,0,none⟩) RR c1)):=aq q w1.heap.size 1 (.slice (some ⟨gq,0,none⟩) RR c1);have b8:=f7.out.next f (λk hk h=>by omega);have j5:=bS q w1.heap.size 1 _ _ (.slice (some ⟨gq,0,none⟩) RR c1) g2.out;have E:(st.take RR).length=RR:=by simp;omega
      have b5:=J.pre (n:=RR) (by omega);have D:=b5.but f (λg hg h=>by have:=a5 g hg;omega);have b9:=a8.but f (λg hg h=>by have:=a4 g hg;omega);have l5:(q.setCell ⟨w1.heap.size,1,none⟩ (.slice (some ⟨gq,0,none⟩) RR c1)).heap.size=q.heap.size:=cJ _ _ _;have l:=hid E;rw[E]at D;have p:=hid D;have s:=hid b9;have O:=hid b8;have g3:=hid j5;have v6:=hid f;have o0:=hid l5;have y5:=ae g2.out;clear f b8 j5 b5 D b9 E l5 M
      by_cases hL0:L.toNat=0
      .have e3:((L.toNat:Int)==0)=true:=by rw[dS];omega
       have e4:((L.toNat:Int)!=0)=false:=by simp[bne,e3]
       have C:(L.toNat:Int)=0:=by omega
       have n4:=hid C;clear C;have A:=hid hL0;clear hL0;go_wp2_with fail;refine oB results174 rfl rfl rfl O.out.res (λw9 h9 h9b=> ?_);refine⟨O.out.but.next h9b (λk hk h=>by omega),Or.inr ⟨st.take RR,lo,some ⟨gq,0,none⟩,c1,a2,c2,by rw[S.out,if_pos A.out,List.append_nil],by rw[l.out],?_,?_⟩⟩
       .rw[l.out];exact BtB.but (dh p.out (by omega)) h9b (λg hg h=>by have:=aC p.out g hg;omega)
       .exact BtB.but (dh s.out (by omega)) h9b (λg hg h=>by have:=aC s.out g hg;omega)
      .have e3:=tf L.toNat 0 (by omega);have e4:((L.toNat:Int)!=0)=true:=by simp[bne,e3]
       have C: ¬(L.toNat:Int)=0:=by omega
       have A:=hid hL0;clear hL0
       have h6:(q.setCell ⟨w1.heap.size,1,none⟩ (.slice (some ⟨gq,0,none⟩) RR c1)).ownsRow (w.heap.size+1+1+1+1) 5 1 (.slice (some ⟨gq,0,none⟩) RR c1) RR (aU (st.take RR)):=by
        have:=p.out;unfold BtB at this;rw[l.out]at this;exact this
       have n7:=hid h6;clear h6;go_wp2_with (at_builtin;refine wpList_append_lies _ rfl _ _ _ rfl (w.heap.size+1+1+1+1) 5 t0 _ 1 1 (by kernel_rfl) t6 v0 v1 v2 rfl (by omega) _ RR (aU (st.take RR)) rfl (n7.out.alloc _) ⟨q.heap.size,0,none⟩ 1 1 [.int .u8 L.toNat] rfl rfl (iO (cs:=#[.int .u8 L.toNat]) (t:=5) (fr:=(0,0)) (aw o0.out _)) (by simp[Value.oneCell']) (by omega) (by unfold maxLen;omega) (by omega) (by simp;omega) (q.heap.size+1) (by simp) ?_);intro gg e w7 j I j1 q3;have Z:But (λk'=>(Value.slice (some ⟨gq,0,none⟩) RR c1).ownBlock=some k') (q.setCell ⟨w1.heap.size,1,none⟩ (.slice (some ⟨gq,0,none⟩) RR c1)) w7:=(ag _ _ _).trans (bD I)
       have hF: ∀k,k≠gq-> ¬(Value.slice (some ⟨gq,0,none⟩) RR c1).ownBlock=some k:=λk hk h=>hk (by injection h with h;exact h.symm)
       have k0:=a5 gq rfl;have j7:=aC p.out gq rfl;have G:=O.out.next Z (λk hk=>hF k (by omega));have a7:=(Z.block w1.heap.size (ae g3.out) (hF _ (by omega))).trans g3.out;have k9:=s.out.but Z (λg hg=>hF g (λh=>by have h1:=aC s.out g hg;have h2:=e7 gq rfl;omega));have x1:=aC j gg rfl
       have p0:gg≠w1.heap.size:=λh=>by
        obtain h'|h':=j1
        .have h2:gq=gg:=Option.some.inj h';omega
        .omega
       clear b0 b1 b2 e0 e1 e2 r0 r1 r2 f0 f1 f2;obtain⟨b0,b1,b2⟩:=iD a7;obtain⟨e0,e1,e2⟩:=lq a7;obtain⟨r0,r1,r2⟩:=iD G.res;obtain⟨f0,f1,f2⟩:=lq G.res;have Y:But (· =w1.heap.size) w7 (w7.setCell ⟨w1.heap.size,1,none⟩ (.slice (some ⟨gg,0,none⟩) (RR+1) e)):=aq w7 w1.heap.size 1 (.slice (some ⟨gg,0,none⟩) (RR+1) e);have i6:=G.next Y (λk hk h=>by omega);have l3:=k9.but Y (λg hg h=>by have:=a4 g hg;omega)
       have h7:BtB (w7.setCell ⟨w1.heap.size,1,none⟩ (.slice (some ⟨gg,0,none⟩) (RR+1) e)) (w.heap.size+1+1+1+1) (.slice (some ⟨gg,0,none⟩) (st.take RR++ [L]).length e) (st.take RR++ [L]):=by
        unfold BtB;rw[aV,l.out,aU,List.map_append];exact ah j Y (λg hg h=>by simp[Value.ownBlock]at hg;omega)
       have h0:=hid i6;have g4:=hid l3;have g6:=hid h7;have p6:=G.gt;have p4:=ae a7;clear G a7 k9 Z I j j1 Y i6 l3 h7 hF;go_wp2_with fail;refine oB results174 rfl rfl rfl h0.out.res (λw9 h9 h9b=> ?_);have o5:(st.take RR++ [L]).length=RR+1:=by rw[aV,l.out];rfl
       refine⟨h0.out.but.next h9b (λk hk h=>by omega),Or.inr ⟨st.take RR++ [L],lo,some ⟨gg,0,none⟩,e,a2,c2,by rw[S.out,if_neg A.out],by rw[o5],?_,?_⟩⟩
       .exact BtB.but (dh g6.out (by omega)) h9b (λg hg h=>by have:=aC g6.out g hg;omega)
       .exact BtB.but (dh g4.out (by omega)) h9b (λg hg h=>by have:=aC g4.out g hg;omega)
end
end Go.Proofs.YtpfkkmacakjmbaaGreatDoor
