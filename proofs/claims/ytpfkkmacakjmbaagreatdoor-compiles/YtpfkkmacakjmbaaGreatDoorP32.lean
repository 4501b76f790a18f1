import Derived.Test.YtpfkkmacakjmbaaGreatDoorP31
set_option maxRecDepth 100000
set_option maxHeartbeats 6400000
set_option linter.all false
namespace Go.Proofs.YtpfkkmacakjmbaaGreatDoor
open Proofs.Tryz
section
open Go Go.RowKit Sp
attribute [local go_sem ↓] eY eZ
theorem Fs:(prog.info? 265).map (λi=>(i.zero,i.size,i.bytes))=some (some (.agg #[.int .i64 0,S_]),2,32):=by kernel_rfl
section
variable {K:Dk} {w0 w w':World} {hv:Value} {fo:List Value} {s:Ev} {ds:List Fd} {d:Fd} {g cap:Nat} {x:Ins} {im:Img} {T:dC} {base:Nat} {L:List (Nat×List St)}
theorem Ft (h:DmQ K w0 w 0 12 hv (.slice (some ⟨g,0,none⟩) (ds.length+1) cap) fo s (ds++ [d])) (h4:d.zv.length<=4000) (hI:cH w0 K.bi im) (hxa:x.a<im.zq.length) (hf8:bB im.zq x.a<=100) {RS:Nat} (hTK: ∀Y,B_ w Y->Calls prog 179 #[.pointer (some ⟨K.mb,0,none⟩)] Y λen w'=>en= .returned (.int .i64 RS)/\B_ Y w') (hh:s.heap.length<=4000) (hce:K.cells<=100) (hrs:RS<=404000) (ho:x.op.toNat=110):
  Calls prog 114 #[.pointer (some ⟨K.mb,0,none⟩),.pointer (some ⟨g,ds.length*4,none⟩),bk x] w λen w'=>en= .returned (.tuple #[])/\((RS+1+(bS im.zq x.a).length>K.cells/\kD K w0 g cap ds d.q s d.pc d.zv d.loc 9 w')\/(¬RS+1+(bS im.zq x.a).length>K.cells/\kD K w0 g cap ds d.q {s with heap:=s.heap++ [⟨x.a,bS im.zq x.a⟩]} d.pc (d.zv++ [.o s.heap.length]) d.loc 12 w')):=by
 have Q:=hid hTK
 have b6:(bS im.zq x.a).length<=100:=by
  have:(bS im.zq x.a).length=bB im.zq x.a:=by simp[bS,bI,bB,aG hxa]
  omega
 clear hTK;unfold bk;rw[ho];clear ho;obtain⟨W,hW⟩: ∃W,w.alloc (.cells #[.int .u8 110,.int .i64 x.a,.int .i64 x.b,.int .i64 x.pos] 144)=W:=⟨_,rfl⟩;have z:B_ w W:=by rw[<-hW];exact aa _ _ _
 have E:W.heap[w.heap.size]?=some (.cells #[.int .u8 110,.int .i64 x.a,.int .i64 x.b,.int .i64 x.pos] 144):=by rw[<-hW];exact aO _ _
 have C:=h.new z;have c0:=C.mc.cs.1;have n1:=ce1 E;have a0:=C.lt;have M:=ae E;have S:=hid hW;have HM:=hid h;have b1:=h.old.size;clear hW h
 go_in
 go_wp2_with fail;rw[S.out];refine aD (B_ W) 7 ?_;have j:B_ W W.drew:=aA _ _
 iterate 6 (refine aF (v:=?_) rfl j ?_ ?_;rotate_left;(focus (intro wS h;have q0:=(h.kc c0 a0);have q1:=(h.kc n1 M);clear h;go_simp;try rfl));dsimp only[Act.put];try simp only[bW])
 refine au rfl ?_;intro KS hKS;go_simp;refine(sR K.bi im x.a _ (hI.but (C.new j).old).cls hxa hf8).mono ?_;rintro en wf ⟨vf,rfl,J,I⟩;refine hKS.out _ _ (λ_=>j.trans I) ?_;clear hKS KS;refine au rfl ?_;intro KS hKS;go_simp;refine hKS.out _ _ nofun ?_;clear hKS KS;refine aI rfl ?_;have f:=j.trans I;have A:=z.trans f;have G:=(f.block _ M (λh=>h)).trans E;obtain⟨af,capf,rfl⟩:=ay J;have i:wf.ownsRow w.heap.size 135 2 (.slice af (bS im.zq x.a).length capf) (bS im.zq x.a).length (aJ (bS im.zq x.a)):=fc J z.size;clear c0 n1 a0 M I J C z f E S j;go_wp2_with fail;refine(Q.out _ A).mono ?_;rintro en w1 ⟨rfl,e⟩
 have c:=HM.out.new (A.trans e);have X:=ag i e (λ_ _ h=>h);have D:=e.kp G
 have O:Hid (∀g',(Value.slice af (bS im.zq x.a).length capf).ownBlock=some g'-> ∀a v l,cT s.heap fo (ds++ [d]) a=some (v,l)->v.ownBlock≠some g'):=λg' hg' a v l ha hv=>by
  have:=aw i g' hg';have:=aY (HM.out.rw.row a v l ha) g' hv;omega
 have b8:=A.size;have b2:=e.size;clear Q e i G A HM;obtain⟨_,_,c2,_,_,_,c6,_,_,c9⟩:=c.mc.cs;have z9:=c.mc.fz 9;have z2:=c.mc.fz 2;have L:=c.lt;have n1:=ce1 D;have a6:=ae D;have y:=hid c;have P:=hid X;have b7:=c.old.size;have ab:=c.nh;have an:hv.ownBlock≠some w.heap.size:=bA c.hp D (by decide);have HP:=c.hp;obtain⟨ah,caph,rfl⟩:=ay HP;clear c X D;generalize T:(bS im.zq x.a).length=nf at*;have H:=hid T;clear T
 by_cases hc:RS+1+nf>K.cells
 .have a2:(K.cells:Int)<(RS:Int)+1+(nf:Int):=by omega
  go_wp2_with fail;refine fY results114 rfl ?_;rw[H.out];exact⟨rfl,Or.inl ⟨hc,_,_,_,_,y.out.own (val':=0) (e':=9) (s':=s) (aj w1 K.mb 9 (.int .i64 9)) rfl (y.out.mc.set9 9)⟩⟩
 .have a2: ¬(K.cells:Int)<(RS:Int)+1+(nf:Int):=by omega
  have HC:=hid hc;clear hc;obtain⟨i0,a3,b3,b4,b5⟩:=info_parts Fs;go_wp2_with fail;refine aD (But (λk=>(Value.slice ah s.heap.length caph).ownBlock=some k) w1) 11 ?_;have Z:But (λk=>(Value.slice ah s.heap.length caph).ownBlock=some k) w1 w1.drew:=aA _ _
  iterate 9 (refine aF (v:=?_) rfl Z ?_ ?_;rotate_left;(focus (intro wS h;have q0:=((h.cell (p:=⟨K.mb,2,none⟩) L ab).trans c2);have q1:=((h.cell (p:=⟨w.heap.size,1,none⟩) a6 an).trans n1);clear h;go_simp;try rfl));dsimp only[Act.put];try simp only[bW])
  refine au rfl ?_;intro KS hKS;go_simp;refine hKS.out _ _ (λ_=>(aa _ _ _).trans (aA _ _)) ?_;clear hKS KS;refine au rfl ?_;intro KS hKS
  refine step_append_lies _ (by rfl) _ _ _ (by rfl) w0.heap.size 265 i0 _ 2 32 (by kernel_rfl) a3 b3 b4 b5 rfl (by omega) _ s.heap.length (eX s.heap fo) (by rfl) ((HP.alloc _).drew)
          ⟨w1.heap.size,0,none⟩ 1 1 [.int .i64 x.a,.slice af nf capf] (by rfl) (by rfl) (iu (cs:=#[.int .i64 x.a,.slice af nf capf]) (t:=265) (fr:=(0,0)) (aO w1 _)) (by simp[Value.oneCell'])
          (by omega) (by unfold maxLen;omega) (by omega) (by simp;omega) (w1.heap.size+1) (by simp) ?_
  intro gg F w2 r n a1 a4;have m:But (λk=>(Value.slice ah s.heap.length caph).ownBlock=some k) w1 w2:=((aa _ _ _).trans (aA _ _)).trans (a8 n);refine hKS.out _ _ (λ_=>m) ?_;clear hKS KS;have y0:=(m.cell (p:=⟨K.mb,2,none⟩) L ab).trans c2;have y1:=(m.frozen (p:=⟨K.mb,2,none⟩) L ab).trans z2;refine au rfl ?_;intro KS hKS;go_simp;refine hKS.out _ _ nofun ?_;clear hKS KS;refine au rfl ?_;intro KS hKS;go_simp;refine hKS.out _ _ nofun ?_;clear hKS KS;refine au rfl ?_;intro KS hKS;go_simp;refine hKS.out _ _ nofun ?_;clear hKS KS;refine aI rfl ?_;have B:=y.out.ob (ob:=⟨x.a,bS im.zq x.a⟩) (vf:= .slice af nf capf) (hv':= .slice (some ⟨gg,0,none⟩) (s.heap.length+1) F) (by rw[H.out];exact fc P.out b1) O.out m r
  clear y0 y1 c2 z2 n1 m r n a1 O y P Z c6 c9 z9 HP;generalize (w2.setCell ⟨K.mb,2,none⟩ (.slice (some ⟨gg,0,none⟩) (s.heap.length+1) F))=w3 at*;have c1:=B.mc.cs.2.2.1;have a5:=B.lt;have b0:=dc ((s.heap.length:Int)+1-1) (by omega) (by omega);rw[IntWalk.i64_left]at b0;have HQ:=hid (dW B (.o s.heap.length) h4);simp only[cW,wv,ww]at HQ;clear B;go_wp2_with fail;refine HQ.out.mono ?_;rintro en w4 ⟨rfl,sv',hM⟩;clear HQ;go_wp2_with fail;go_end0;rw[H.out];exact⟨rfl,Or.inr ⟨HC.out,_,_,_,_,hM⟩⟩
end
end
section
open Go Go.RowKit Sp
theorem ux {zv:List V}:mQ [] zv:=⟨by simp,λj t v h=>by simp at h⟩
theorem DS {zv:List V} {a:UInt8} (hl:1<=zv.length) (h:((a.toNat:Int)==105)=(((bT zv).K:Int)==105)):mQ [a] zv:=by
 refine⟨hl,λj t v h1 h2=> ?_⟩
 cases j with
 |succ j=>simp at h1
 |zero=>
  simp at h1 h2;have:=(qc hl).2.1;rw[h2]at this
  cases this
  rw[<-h1];exact h
theorem DT {zv:List V} {a b:UInt8} (hl:2<=zv.length) (h:((a.toNat:Int)==105)=(((hU zv).K:Int)==105)) (h':((b.toNat:Int)==105)=(((bT zv).K:Int)==105)):mQ [a,b] zv:=by
 refine⟨hl,λj t v h1 h2=> ?_⟩
 match j with
 |0=>
  simp at h1 h2;have e:hU zv=v:=by unfold hU;rw[bH,h2];rfl
  rw[<-h1,h,e]
 |1=>
  simp at h1 h2;have:=(qc (zv:=zv) (by omega)).2.1;rw[show zv.length-2+1=zv.length-1 from by omega,this]at h2
  cases h2
  rw[<-h1];exact h'
 |j+2=>simp at h1
theorem wD {im:Img} {s:Ev} {v:V} (h:rt im s v):((v.K:Int)==105)=false:=by
 obtain rfl| ⟨k,ob,rfl,_⟩:=h<;>rfl
def rx (K:Dk) (w0:World) (sr:SR) (w':World):Prop:=match sr with
 | .go m=> ∃hv fv fo ds d,DmQ K w0 w' 0 12 hv fv fo m.ev (ds++ [d])/\m.fr=d.fm::(ds.map Fd.fm).reverse/\ ∀d'∈ds++ [d],0<=d'.pc
 | .bad n o=>EM K w0 n o w'
 | .fin v o=> ∃hv fv fo s,s.out=o/\DmQ K w0 w' v.N 0 hv fv fo s []
structure DAt (K:Dk) (w0 w:World) (im:Img) (T:dC) (hv:Value) (g cap:Nat) (fo:List Value) (s:Ev) (ds:List Fd) (d:Fd) (b:Bod) (x:Ins) (st l:L_):Prop where
 dm:DmQ K w0 w 0 12 hv (.slice (some ⟨g,0,none⟩) (ds.length+1) cap) fo s (ds++ [d])
 cp:ds.length+1<=cap
 img:cH w0 K.bi im
 fit:Fit im T
 mt:MT im T d.fm (ds.map Fd.fm).reverse s
 top:t8 im T s.heap d.fm b x st l
 pcs: ∀d'∈ds++ [d],0<=d'.pc
 hh:s.heap.length<=4000
def AJ (K:Dk) (w0:World) (g cap:Nat) (ds:List Fd) (q:Nat) (sr:SR) (w':World):Prop:=
 ∃s pc zv loc e,-1<=pc/\pc<=200/\kD K w0 g cap ds q s pc zv loc e w'/\((e=12/\sr= .go ⟨⟨q,(pc+1).toNat,zv,loc⟩::(ds.map Fd.fm).reverse,s⟩)\/ ∃n:Nat,e=n/\sr= .bad n s.out)
section
variable {K:Dk} {w0 w w':World} {im:Img} {T:dC} {hv:Value} {g cap:Nat} {fo:List Value} {s:Ev} {ds:List Fd} {d:Fd} {b:Bod} {x:Ins} {st l:L_}
theorem AJ.next {q:Nat} {sr:SR} (hp: ∀d'∈ds,0<=d'.pc) (h:AJ K w0 g cap ds q sr w'):wy K w0 g cap ds (rx K w0 sr) w':=by
 obtain⟨s,pc,zv,loc,e,b,c,⟨hv,fo,sv,lv,a⟩,hc⟩:=h;refine⟨q,s,pc,zv,loc,e,hv,fo,sv,lv,b,c,a,λw'' hM2=> ?_⟩;obtain⟨rfl,rfl⟩ | ⟨n,rfl,rfl⟩:=hc
 .refine⟨_,_,_,ds,_,hM2,rfl,λd' hd=> ?_⟩;obtain hd|hd:=gz hd
  .exact hp d' hd
  .rw[List.mem_singleton]at hd;subst hd;simp only;omega
 .exact⟨_,_,_,_,_,rfl,hM2⟩
theorem DAt.wx (h:DAt K w0 w im T hv g cap fo s ds d b x st l):WfX im.zq im.zx.length b.zy.length x:=(h.fit.wf.bod b (bn h.top.bd)).code x (bn h.top.ins)
theorem DAt.sml (h:DAt K w0 w im T hv g cap fo s ds d b x st l):d.zv.length<=1000/\d.pc<=100/\ds.length+1<=12/\0<=d.pc:=by
 have a:=((yG h.fit h.mt).1 d.fm (List.mem_cons_self ..)).2.1;have c:=(yG h.fit h.mt).2 d.fm (List.mem_cons_self ..);have e:=h.mt.dep;have f:=h.pcs d (by simp);simp at e;have i:d.pc.toNat<=100:=c;exact⟨a,by omega,by omega,f⟩
theorem DAt.on (h:DAt K w0 w im T hv g cap fo s ds d b x st l) (zv:List V):d.fm.on zv=⟨d.q,(d.pc+1).toNat,zv,d.loc⟩:=by
 have:=h.sml.2.2.2;simp only[Fm.on,Fd.fm,Fm.mk.injEq,true_and,and_true];omega
theorem DAt.eff (h:DAt K w0 w im T hv g cap fo s ds d b x st l): ∃st' l',cC im.zq im.zx b x st l=some (st',l'):=by
 obtain⟨t,ht,a⟩:=h.fit.tab h.top.bd;obtain⟨st',l',c,_,_⟩:=a.go d.fm.pc x st l h.top.ins ((dP ht).1 h.top.st);exact⟨st',l',c⟩
theorem DAt.step (h:DAt K w0 w im T hv g cap fo s ds d b x st l) (ht:mQ (br im x) d.zv) (sr:SR)
  (hK:(x.op.toNat=99/\ ∀Y,B_ w Y->Calls prog 111 #[.pointer (some ⟨K.mb,0,none⟩),.pointer (some ⟨g,ds.length*4,none⟩),bk x] Y λen w'=>en= .returned (.tuple #[])/\rx K w0 sr w')\/
   (x.op.toNat=116/\ ∀Y,B_ w Y->Calls prog 112 #[.pointer (some ⟨K.mb,0,none⟩),.pointer (some ⟨g,ds.length*4,none⟩)] Y λen w'=>en= .returned (.tuple #[])/\rx K w0 sr w')\/
   ((x.op.toNat=108\/x.op.toNat=115\/x.op.toNat=100\/x.op.toNat=106)/\ ∀Y,B_ w Y->Calls prog 113 #[.pointer (some ⟨K.mb,0,none⟩),.pointer (some ⟨g,ds.length*4,none⟩),bk x] Y λen w'=>en= .returned (.tuple #[])/\AJ K w0 g cap ds d.q sr w')\/
   ((x.op.toNat=110\/x.op.toNat=122\/x.op.toNat=103\/x.op.toNat=112\/x.op.toNat=120)/\ ∀Y,B_ w Y->Calls prog 114 #[.pointer (some ⟨K.mb,0,none⟩),.pointer (some ⟨g,ds.length*4,none⟩),bk x] Y λen w'=>en= .returned (.tuple #[])/\AJ K w0 g cap ds d.q sr w')\/
   ((x.op.toNat≠99/\x.op.toNat≠116/\x.op.toNat≠108/\x.op.toNat≠115/\x.op.toNat≠100/\x.op.toNat≠106/\x.op.toNat≠110/\x.op.toNat≠122/\x.op.toNat≠103/\x.op.toNat≠112/\x.op.toNat≠120)/\ ∀Y,B_ w Y->Calls prog 115 #[.pointer (some ⟨K.mb,0,none⟩),.pointer (some ⟨g,ds.length*4,none⟩),bk x] Y λen w'=>en= .returned (.tuple #[])/\AJ K w0 g cap ds d.q sr w')):
  Calls prog 67 #[.pointer (some ⟨K.mb,0,none⟩)] w λen w'=>en= .returned (.tuple #[])/\rx K w0 sr w':=by
 have e:=h.sml;have hn: ∀{en:Ending} {w':World},en= .returned (.tuple #[])/\AJ K w0 g cap ds d.q sr w'->en= .returned (.tuple #[])/\wy K w0 g cap ds (rx K w0 sr) w':=λ⟨a,c⟩=>⟨a,c.next (λd' hd=>h.pcs d' (List.mem_append_left _ hd))⟩
 refine AD h.dm (by omega) (by omega) h.img h.fit.wf h.top.bd e.2.2.2 h.top.ins ht _ ?_;obtain hK|hK| ⟨ho,hK⟩ | ⟨ho,hK⟩ | ⟨ho,hK⟩:=hK
 .exact Or.inl hK
 .exact Or.inr (Or.inl hK)
 .exact Or.inr (Or.inr (Or.inl ⟨ho,λY hY=>(hK Y hY).mono (λ_ _ h=>hn h)⟩))
 .exact Or.inr (Or.inr (Or.inr (Or.inl ⟨ho,λY hY=>(hK Y hY).mono (λ_ _ h=>hn h)⟩)))
 .exact Or.inr (Or.inr (Or.inr (Or.inr ⟨ho,λY hY=>(hK Y hY).mono (λ_ _ h=>hn h)⟩)))
abbrev DAt.Goal (_:DAt K w0 w im T hv g cap fo s ds d b x st l):Prop:=Calls prog 67 #[.pointer (some ⟨K.mb,0,none⟩)] w λen w'=>en= .returned (.tuple #[])/\rx K w0 (Sp.stepX im K.inp T K.cells x d.fm (ds.map Fd.fm).reverse s) w'
theorem Fu (h:DAt K w0 w im T hv g cap fo s ds d b x st l) (ho:x.op.toNat=107):h.Goal:=by
 have c:=h.sml;refine h.step (by rw[show br im x=[]from by simp[br,ho]];exact ux) _ (Or.inr (Or.inr (Or.inr (Or.inr ⟨by omega,λY hY=>(Fi (h.dm.new hY) (by omega) ho).mono ?_⟩))));rintro en w' ⟨e,a⟩;exact⟨e,_,_,_,_,_,by omega,by omega,a,Or.inl ⟨rfl,by rw[<-h.on];simp[Sp.stepX,ho];rfl⟩⟩
theorem Fv (h:DAt K w0 w im T hv g cap fo s ds d b x st l) (hr:s.read<=4000) (ho:x.op.toNat=114):h.Goal:=by
 have c:=h.sml;refine h.step (by rw[show br im x=[]from by simp[br,ho]];exact ux) _ (Or.inr (Or.inr (Or.inr (Or.inr ⟨by omega,λY hY=>(Fj (h.dm.new hY) (by omega) hr ho).mono ?_⟩))));rintro en w' ⟨e,a⟩;exact⟨e,_,_,_,_,_,by omega,by omega,a,Or.inl ⟨rfl,by rw[<-h.on];simp[Sp.stepX,ho];rfl⟩⟩
theorem Fw (h:DAt K w0 w im T hv g cap fo s ds d b x st l) (ho:x.op.toNat=122):h.Goal:=by
 have c:=h.sml;refine h.step (by rw[show br im x=[]from by simp[br,ho]];exact ux) _ (Or.inr (Or.inr (Or.inr (Or.inl ⟨by omega,λY hY=>(Fq (h.dm.new hY) (by omega) ho).mono ?_⟩))));rintro en w' ⟨e,a⟩;exact⟨e,_,_,_,_,_,by omega,by omega,a,Or.inl ⟨rfl,by rw[<-h.on];simp[Sp.stepX,ho];rfl⟩⟩
theorem Fx (h:DAt K w0 w im T hv g cap fo s ds d b x st l) (ht:iM w0) (hol:s.out.length<=90000) (ho:x.op.toNat=119):h.Goal:=by
 have r:=h.sml;obtain⟨st',l',m⟩:=h.eff;obtain⟨c,_,_⟩:=bV (by omega) (by omega) m;simp[bE,arith,ho]at c;obtain⟨f,j⟩:=g8 c;have hl:=h.top.zv.len;have a:1<=d.zv.length:=by have:d.zv.length=_:=hl;omega
 obtain⟨n,hn,p,q⟩:=(h.top.zv.t1 f).toInt h.fit.wf.cls h.fit.wf.nc h.mt.ht j;have hn:bT d.zv= .i n:=hn;refine h.step (by rw[show br im x=[105]from by simp[br,ho]];exact DS a (by rw[hn];rfl)) _ (Or.inr (Or.inr (Or.inr (Or.inr ⟨by omega,λY hY=>(Fk (h.dm.new hY) (by omega) ht hol a hn p q ho).mono ?_⟩))));rintro en w' ⟨e,k⟩;exact⟨e,_,_,_,_,_,by omega,by omega,k,Or.inl ⟨rfl,by rw[<-h.on];simp[Sp.stepX,ho,show bT d.fm.zv= .i n from hn,V.N];rfl⟩⟩
theorem Fy (h:DAt K w0 w im T hv g cap fo s ds d b x st l) (ho:x.op.toNat=102):h.Goal:=by
 have t:=h.sml;obtain⟨st',l',q⟩:=h.eff;obtain⟨f,_,_⟩:=bV (by omega) (by omega) q;simp[bE,arith,ho]at f;obtain⟨k,m⟩:=g8 f;have hl:=h.top.zv.len;have a:1<=d.zv.length:=by have:d.zv.length=_:=hl;omega
 obtain⟨n,hn,v,y⟩:=(h.top.zv.t1 k).toInt h.fit.wf.cls h.fit.wf.nc h.mt.ht m;have hn:bT d.zv= .i n:=hn;have r:=h.wx.num;refine h.step (by rw[show br im x=[105]from by simp[br,ho]];exact DS a (by rw[hn];rfl)) _ (Or.inr (Or.inr (Or.inr (Or.inr ⟨by omega,λY hY=>(Fl (h.dm.new hY) (by omega) a h.wx.num ho).mono ?_⟩))));rintro en w' ⟨e,p⟩;refine⟨e,_,_,_,_,_,by split<;>omega,by split<;>omega,p,Or.inl ⟨rfl,?_⟩⟩;have c:(bT d.zv).N=(bT d.fm.zv).N:=rfl;have j:d.fm.pc=d.pc.toNat:=rfl;simp only[Sp.stepX,ho]
 by_cases h0:(bT d.zv).N=0
 .simp[h0,<-c];exact⟨rfl,rfl,rfl⟩
 .simp[h0,<-c,j,show(d.pc+1).toNat=d.pc.toNat+1 from by omega];exact⟨rfl,rfl,rfl⟩
theorem Fz (h:DAt K w0 w im T hv g cap fo s ds d b x st l) (ho:x.op.toNat=100):h.Goal:=by
 have j:=h.sml;obtain⟨st',l',f⟩:=h.eff;obtain⟨k,i,_,_⟩:=kV (by omega) f;obtain⟨_,m,_⟩:=iL (by omega) i;have hl:=h.top.zv.len;have a:1<=d.zv.length:=by have:d.zv.length=_:=hl;omega
 refine h.step (by rw[show br im x=[]from by simp[br,ho]];exact ux) _ (Or.inr (Or.inr (Or.inl ⟨by omega,λY hY=>(EI (h.dm.new hY) (by omega) a ho).mono ?_⟩)));rintro en w' ⟨e,c⟩;exact⟨e,_,_,_,_,_,by omega,by omega,c,Or.inl ⟨rfl,by rw[<-h.on];simp[Sp.stepX,ho];rfl⟩⟩
theorem FA (h:DAt K w0 w im T hv g cap fo s ds d b x st l) (ho:x.op.toNat=115):h.Goal:=by
 have n:=h.sml;obtain⟨st',l',j⟩:=h.eff;obtain⟨k,m,_,_⟩:=kV (by omega) j;obtain⟨_,p,_⟩:=iL (by omega) m;have hl:=h.top.zv.len;have a:1<=d.zv.length:=by have:d.zv.length=_:=hl;omega
 have c:x.b<d.loc.length:=by
  have f:d.loc.length=l.length:=h.top.loc.len;rw[f,xF h.fit h.top];exact h.wx.loc (Or.inr ho)
 refine h.step (by rw[show br im x=[]from by simp[br,ho]];exact ux) _ (Or.inr (Or.inr (Or.inl ⟨by omega,λY hY=>(EJ (h.dm.new hY) (by omega) a c ho).mono ?_⟩)));rintro en w' ⟨e,i⟩;exact⟨e,_,_,_,_,_,by omega,by omega,i,Or.inl ⟨rfl,by simp[Sp.stepX,ho];exact⟨rfl,congrArg Fm.pc (h.on []),rfl,rfl⟩⟩⟩
theorem FB (h:DAt K w0 w im T hv g cap fo s ds d b x st l) (ho:x.op.toNat=108):h.Goal:=by
 have i:=h.sml
 have a:x.b<d.loc.length:=by
  have c:d.loc.length=l.length:=h.top.loc.len;rw[c,xF h.fit h.top];exact h.wx.loc (Or.inl ho)
 refine h.step (by rw[show br im x=[]from by simp[br,ho]];exact ux) _ (Or.inr (Or.inr (Or.inl ⟨by omega,λY hY=>(EK (h.dm.new hY) (by omega) a ho).mono ?_⟩)));rintro en w' ⟨e,f⟩;exact⟨e,_,_,_,_,_,by omega,by omega,f,Or.inl ⟨rfl,by rw[<-h.on];simp[Sp.stepX,ho];rfl⟩⟩
theorem FC (h:DAt K w0 w im T hv g cap fo s ds d b x st l) (ho:x.op.toNat=106):h.Goal:=by
 have f:=h.sml;have c:=h.wx.num;refine h.step (by rw[show br im x=[]from by simp[br,ho]];exact ux) _ (Or.inr (Or.inr (Or.inl ⟨by omega,λY hY=>(EH (h.dm.new hY) h.wx.num ho).mono ?_⟩)));rintro en w' ⟨e,a⟩;exact⟨e,_,_,_,_,_,by omega,by omega,a,Or.inl ⟨rfl,by simp[Sp.stepX,ho];exact⟨rfl,rfl,rfl⟩⟩⟩
theorem mE {im:Img} {s:Ev} {v:V} (hh:HT im.zq s.heap) {t:UInt8} (h:VT im.zq s.heap t v) (ht:isR t=true):rt im s v:=by
 obtain e| ⟨k,ob,e,hk,_,_⟩:=h.ref ht
 .exact Or.inl e
 .exact Or.inr ⟨k,ob,e,hk,hh.cls k ob hk⟩
theorem FD {zv:List V} {t:UInt8} {n:Nat} (hl:2<=zv.length) (hn:n<=4) (hu:rt im s (hU zv)) (hv:VTm im.zq s.heap t (bT zv)) (ht:cw n t=true):mQ (if t.toNat=105 then [111,105]else [111,111]) zv:=by
 have a:=hv.not45 (jx ht);have b:((((111:UInt8).toNat:Nat):Int)==105)=(((hU zv).K:Int)==105):=by rw[wD hu];rfl
 by_cases h:t.toNat=105
 .rw[if_pos h];obtain⟨m,hm,_⟩:=a.int h;exact DT hl b (by rw[hm];rfl)
 .rw[if_neg h];have c:isR t=true:=by simp[cw,aK,isR,isC]at ht⊢;omega
  refine DT hl b ?_;obtain e| ⟨k,ob,e,_⟩:=a.ref c<;>rw[e]<;>rfl
theorem FE (h:DAt K w0 w im T hv g cap fo s ds d b x st l) (ho:x.op.toNat=43\/x.op.toNat=45\/x.op.toNat=42\/x.op.toNat=60\/x.op.toNat=61\/x.op.toNat=47):h.Goal:=by
 have D:=h.sml;obtain⟨st',l',C⟩:=h.eff;obtain⟨p,_,_⟩:=bV (by omega) (by omega) C
 have hp:bE im.zq im.zx b x=[105,105]:=by
  obtain h'|h'|h'|h'|h'|h':=ho<;>simp[bE,arith,h']
 rw[hp]at p;obtain⟨z,A,B⟩:=jE p;have hl:d.zv.length=st.length:=h.top.zv.len;obtain⟨m,hm,q,r⟩:=(h.top.zv.t2 z).toInt h.fit.wf.cls h.fit.wf.nc h.mt.ht A;obtain⟨n,hn,t,y⟩:=(h.top.zv.t1 (by omega)).toInt h.fit.wf.cls h.fit.wf.nc h.mt.ht B;have a:hU d.zv= .i m:=hm;have c:bT d.zv= .i n:=hn
 have hw:br im x=[105,105]:=by
  obtain h'|h'|h'|h'|h'|h':=ho<;>simp[br,h']
 have k:Sp.stepX im K.inp T K.cells x d.fm (ds.map Fd.fm).reverse s=match dB x.op.toNat m n [] s with
  | .bad e o=> .bad e o
  | .ok v _ s=> .go ⟨d.fm.on (dT d.zv++ [v])::(ds.map Fd.fm).reverse,s⟩:=by
  unfold Sp.stepX;rw[if_neg (by omega),if_neg (by omega),if_neg (by omega),if_neg (by omega),if_neg (by omega),if_neg (by omega),if_neg (by omega),if_neg (by omega),if_neg (by omega),if_neg (by omega),if_neg (by omega),if_neg (by omega),if_neg (by omega),if_neg (by omega),if_neg (by omega),if_neg (by omega),hm,hn]
  rfl
 have ht:mQ (br im x) d.zv:=by rw[hw];exact DT (by omega) (by rw[a];rfl) (by rw[c];rfl)
 refine h.step ht _ (Or.inr (Or.inr (Or.inr (Or.inr ⟨by omega,λY hY=> ?_⟩))))
 by_cases h47:x.op.toNat=47
 .refine(Fp (h.dm.new hY) (by omega) (by omega) a c q r t y h47).mono ?_;rintro en w' ⟨e,⟨j,f⟩ | ⟨j,f⟩⟩
  .exact⟨e,_,_,_,_,_,by omega,by omega,f,Or.inr ⟨7,rfl,by rw[k,h47,j];simp[dB]⟩⟩
  .exact⟨e,_,_,_,_,_,by omega,by omega,f,Or.inl ⟨rfl,by rw[k,h47];simp[dB,j,h.on]⟩⟩
 .refine(Fo (h.dm.new hY) (by omega) (by omega) a c q r t y (by omega)).mono ?_;rintro en w' ⟨e,f⟩;exact⟨e,_,_,_,_,_,by omega,by omega,f,Or.inl ⟨rfl,by rw[k];simp[dB,h47,h.on]⟩⟩
theorem FF (h:DAt K w0 w im T hv g cap fo s ds d b x st l) (ho:x.op.toNat=101):h.Goal:=by
 have p:=h.sml;obtain⟨st',l',j⟩:=h.eff;obtain⟨k,a,_,_⟩:=i9 (by omega) (by omega) j;obtain⟨_,n,f,c⟩:=qN (by rw[ho]at a;exact a);have hl:d.zv.length=st.length:=h.top.zv.len;have m:rt im s (hU d.zv):=mE h.mt.ht ((h.top.zv.t2 n).toRef c) c;have hv:rt im s (bT d.zv):=mE h.mt.ht ((h.top.zv.t1 (by omega)).toRef f) f;refine h.step (by rw[show br im x=[111,111]from by simp[br,ho]];exact DT (by omega) (by rw[wD m];rfl) (by rw[wD hv];rfl)) _ (Or.inr (Or.inr (Or.inr (Or.inr ⟨by omega,λY hY=>(Fn (h.dm.new hY) (by omega) (by omega) ho).mono ?_⟩))));rintro en w' ⟨e,i⟩;exact⟨e,_,_,_,_,_,by omega,by omega,i,Or.inl ⟨rfl,by rw[<-h.on];simp[Sp.stepX,ho];rfl⟩⟩
theorem FG (h:DAt K w0 w im T hv g cap fo s ds d b x st l) (ho:x.op.toNat=120):h.Goal:=by
 have n:=h.sml;obtain⟨st',l',i⟩:=h.eff;obtain⟨k,j,_,_⟩:=i9 (by omega) (by omega) i;obtain⟨_,m,c⟩:=iL (by omega) j;have c:=c ho;have hl:d.zv.length=st.length:=h.top.zv.len;have hv:rt im s (bT d.zv):=mE h.mt.ht ((h.top.zv.t1 m).toRef c) c;refine h.step (by rw[show br im x=[111]from by simp[br,ho]];exact DS (by omega) (by rw[wD hv];rfl)) _ (Or.inr (Or.inr (Or.inr (Or.inl ⟨by omega,λY hY=>(Fr (h.dm.new hY) (by omega) (by omega) h.img h.fit.wf.cls hv h.hh ho).mono ?_⟩))));rintro en w' ⟨e,f⟩;refine⟨e,_,_,_,_,_,by omega,by omega,f,?_⟩;have ef:bT d.fm.zv=bT d.zv:=rfl
 have eg:Sp.stepX im K.inp T K.cells x d.fm (ds.map Fd.fm).reverse s=if ofV im s (bT d.zv) x.a=true then .go ⟨d.fm.on d.zv::(ds.map Fd.fm).reverse,s⟩else .bad 8 s.out:=by
  obtain hz| ⟨k,ob,hz,_⟩:=hv
  .simp[Sp.stepX,ho,ef,hz,ofV];rfl
  .simp[Sp.stepX,ho,ef,hz,ofV];rfl
 rw[eg]
 by_cases hb:ofV im s (bT d.zv) x.a=true
 .rw[if_pos hb,if_pos hb];exact Or.inl ⟨rfl,by rw[h.on]⟩
 .rw[if_neg hb,if_neg hb];exact Or.inr ⟨8,rfl,rfl⟩
theorem FH (h:DAt K w0 w im T hv g cap fo s ds d b x st l) (ho:x.op.toNat=103):h.Goal:=by
 have z:=h.sml;obtain⟨st',l',t⟩:=h.eff;obtain⟨m,_,_⟩:=bV (by omega) (by omega) t;simp[bE,arith,ho]at m;obtain⟨n,p⟩:=g8 m;have hl:d.zv.length=st.length:=h.top.zv.len;have j:=h.wx.cls (by omega);have v:=h.fit.wf.nc;obtain⟨c,f⟩:=eU (a:=x.a) (by omega);have hv:=((h.top.zv.t1 n).sub h.fit.wf.cls h.fit.wf.nc h.mt.ht p).toRef (bZ c);have r:rt im s (bT d.zv):=mE h.mt.ht hv (bZ c);refine h.step (by rw[show br im x=[111]from by simp[br,ho]];exact DS (by omega) (by rw[wD r];rfl)) _ (Or.inr (Or.inr (Or.inr (Or.inl ⟨by omega,λY hY=> ?_⟩))));obtain e| ⟨k,ob,e,hk,_,hu⟩:=hv.ref (bZ c)
 .refine(EO (h.dm.new hY) (by omega) (by omega) e ho).mono ?_;rintro en w' ⟨e',i⟩;exact⟨e',_,_,_,_,_,by omega,by omega,i,Or.inr ⟨6,rfl,by simp[Sp.stepX,ho,e]⟩⟩
 .rw[f]at hu;obtain⟨q,y⟩:=mB h.fit h.mt.ht j (h.wx.fld (by omega)) hk hu;refine(EP (h.dm.new hY) (by omega) (by omega) h.img h.fit.wf.cls e hk (h.mt.ht.cls k ob hk) hu q h.hh ho).mono ?_;rintro en w' ⟨e',i⟩;exact⟨e',_,_,_,_,_,by omega,by omega,i,Or.inl ⟨rfl,by rw[<-h.on];simp[Sp.stepX,ho,e,(Ev.at hk).2];rfl⟩⟩
theorem FI (h:DAt K w0 w im T hv g cap fo s ds d b x st l) (ho:x.op.toNat=112):h.Goal:=by
 have E:=h.sml;obtain⟨st',l',C⟩:=h.eff;obtain⟨t,_,_⟩:=bV (by omega) (by omega) C;simp[bE,arith,ho]at t;obtain⟨v,y,z⟩:=jE t;have hl:d.zv.length=st.length:=h.top.zv.len;have f:=h.wx.cls (by omega);have n:=h.wx.fld (by omega);have p:=h.fit.wf.nc;obtain⟨c,j⟩:=eU (a:=x.a) (by omega);have hv:=((h.top.zv.t2 v).sub h.fit.wf.cls h.fit.wf.nc h.mt.ht y).toRef (bZ c);have B:rt im s (hU d.zv):=mE h.mt.ht hv (bZ c);have r:=(h.top.zv.t1 (by omega)).sub h.fit.wf.cls h.fit.wf.nc h.mt.ht z;have q:=o8 h.fit.wf f n
 have i:mQ (br im x) d.zv:=by
  rw[show br im x=if(cj im.zq x.a x.b).toNat=105 then [111,105]else [111,111]from by simp[br,ho]];exact FD (by omega) p B r q
 refine h.step i _ (Or.inr (Or.inr (Or.inr (Or.inl ⟨by omega,λY hY=> ?_⟩))));obtain e| ⟨k,ob,e,hk,_,hu⟩:=hv.ref (bZ c)
 .refine(EQ (h.dm.new hY) (by omega) (by omega) e ho).mono ?_;rintro en w' ⟨e',m⟩;exact⟨e',_,_,_,_,_,by omega,by omega,m,Or.inr ⟨6,rfl,by simp[Sp.stepX,ho,e]⟩⟩
 .rw[j]at hu;obtain⟨A,D⟩:=mB h.fit h.mt.ht f (h.wx.fld (by omega)) hk hu;refine(ER (h.dm.new hY) (by omega) (by omega) h.img h.fit.wf.cls e hk (h.mt.ht.cls k ob hk) hu A h.hh ho).mono ?_;rintro en w' ⟨e',m⟩;exact⟨e',_,_,_,_,_,by omega,by omega,m,Or.inl ⟨rfl,by rw[<-h.on];simp[Sp.stepX,ho,e];exact⟨rfl,rfl⟩⟩⟩
theorem FJ (h:DAt K w0 w im T hv g cap fo s ds d b x st l) (hfin:ds=[]-> ∃n,bT d.zv= .i n) (ho:x.op.toNat=116):h.Goal:=by
 have y:=h.sml;obtain⟨st',l',t⟩:=h.eff;obtain⟨p,_,_⟩:=bV (by omega) (by omega) t;simp[bE,arith,ho]at p;have v:1<=st.length:=by split at p<;>exact(g8 p).1
 have hl:d.zv.length=st.length:=h.top.zv.len;refine h.step (by rw[show br im x=[]from by simp[br,ho]];exact ux) _ (Or.inr (Or.inl ⟨ho,λY hY=> ?_⟩))
 have hds:ds=[]\/ ∃es c,ds=es++ [c]:=by
  obtain h| ⟨es,c,h⟩:=List.eq_nil_or_concat ds
  .exact Or.inl h
  .exact Or.inr ⟨es,c,by rw[h,List.concat_eq_append]⟩
 obtain rfl| ⟨es,c,rfl⟩:=hds
 .obtain⟨n,hn⟩:=hfin rfl;refine(DO (h.dm.new hY) h.cp (by omega) (by omega) hn).mono ?_;rintro en w' ⟨e,hv',fv',fo',a⟩;refine⟨e,?_⟩;rw[show Sp.stepX im K.inp T K.cells x d.fm (([]:List Fd).map Fd.fm).reverse s= .fin (.i n) s.out from by simp[Sp.stepX,ho,show bT d.fm.zv= .i n from hn]];exact⟨_,_,_,_,rfl,a⟩
 .have hm:=yG h.fit h.mt;have hc:c.fm∈d.fm::((es++ [c]).map Fd.fm).reverse:=by simp
  have f:=(hm.1 _ hc).2.1;have r:c.pc.toNat<=100:=hm.2 _ hc;have j:=h.pcs c (by simp);have m:=h.dm.new hY;have k:=h.cp;rw[aN,dK]at*;refine(EN m k (by omega) (by omega) (Nat.le_trans f (by omega)) (by omega) ⟨j,by omega⟩).mono ?_;rintro en w' ⟨e,fv',sv',lv',a⟩;refine⟨e,?_⟩;have q:Sp.stepX im K.inp T K.cells x d.fm ((es++ [c]).map Fd.fm).reverse s= .go ⟨c.fm.on (c.zv++ [bT d.zv])::(es.map Fd.fm).reverse,s⟩:=by simp[Sp.stepX,ho];rfl
  rw[q];refine⟨_,_,_,es,_,a,?_,λd' hd'=> ?_⟩
  .simp only[Fm.on,Fd.fm,List.cons.injEq,Fm.mk.injEq,true_and,and_true];omega
  .obtain hd'|hd':=gz hd'
   .exact h.pcs d' (by simp[hd'])
   .rw[List.mem_singleton]at hd';subst hd';simp only;omega
theorem FK (h:DAt K w0 w im T hv g cap fo s ds d b x st l) {base:Nat} {L:List (Nat×List St)} (hT:iF w0 base K.tv L) (hLT:L.map (·.2)=T) (hce:K.cells<=100) (ho:x.op.toNat=110):h.Goal:=by
 have D:=h.sml;have j:=h.wx.cls (by omega);have m:=h.fit.wf.nc;have r:=wg m j;have t:=nQ h.fit.wf.cls m (UInt8.ofNat (65+x.a));have p:=(yG h.fit h.mt).1;have n:=AB h.fit.wf h.mt.ht;have C:bB im.zq x.a=(bI im.zq x.a).length:=rfl;rw[r]at t;have i:DI T s.heap.length ((ds++ [d]).map Fd.fm):=λf c=>p f (by simp at c⊢;rcases c with⟨a,ha,rfl⟩ |rfl;exact Or.inr ⟨a,ha,rfl⟩;exact Or.inl rfl)
 have A:fy s.heap (je T ((ds++ [d]).map Fd.fm))=fy s.heap (je T (d.fm::(ds.map Fd.fm).reverse)):=kX (λk=>by
  unfold je
  constructor
  .rintro⟨f,c,v⟩;exact⟨f,by simp at c⊢;rcases c with⟨a,ha,rfl⟩ |rfl;exact Or.inr ⟨a,ha,rfl⟩;exact Or.inl rfl,v⟩
  .rintro⟨f,c,v⟩;exact⟨f,by simp at c⊢;rcases c with rfl| ⟨a,ha,rfl⟩;exact Or.inr rfl;exact Or.inl ⟨a,ha,rfl⟩,v⟩)
 have z:fy s.heap (je T ((ds++ [d]).map Fd.fm))<=404000:=by
  have y:fy s.heap (je T ((ds++ [d]).map Fd.fm))=fy s.heap (λk=>V.o k∈xT T ((ds++ [d]).map Fd.fm)):=(kX (λk=>xU k)).symm;rw[y]
  exact AA n (λu B=>by
   obtain⟨f,c,B⟩:=List.mem_flatMap.1 B;exact(i f c).2.2.2.2 u B) h.hh
 refine h.step (by rw[show br im x=[]from by simp[br,ho]];exact ux) _ (Or.inr (Or.inr (Or.inr (Or.inl ⟨by omega,λY hY=>(Ft (h.dm.new hY) (by omega) h.img j (by omega) (λZ hZ=>AI ((h.dm.new hY).new hZ) hT hLT h.pcs i (by simp;omega) (im.zq.map toX) n h.hh) h.hh hce z ho).mono ?_⟩))));rw[A];rintro en w' ⟨e,⟨hc,q⟩ | ⟨hc,q⟩⟩
 .exact⟨e,_,_,_,_,_,by omega,by omega,q,Or.inr ⟨9,rfl,by simp only[Sp.stepX,ho];simp[hc]⟩⟩
 .exact⟨e,_,_,_,_,_,by omega,by omega,q,Or.inl ⟨rfl,by rw[<-h.on];simp only[Sp.stepX,ho];simp[hc];rfl⟩⟩
theorem FL (h:DAt K w0 w im T hv g cap fo s ds d b x st l) (ho:x.op.toNat=99):h.Goal:=by
 have hs:=h.sml;obtain⟨st',l',X⟩:=h.eff;obtain⟨J,_,_⟩:=bV (by omega) (by omega) X;simp[bE,arith,ho]at J;obtain⟨M,O,P⟩:=jE J;have hl:d.zv.length=st.length:=h.top.zv.len;have B:=h.wx.cls (by omega);have r:=h.wx.sig ho;have D:=h.fit.wf.nc;have A:b∈im.zj:=bn h.top.bd;have I:x∈b.code:=bn h.top.ins;obtain⟨c,v⟩:=eU (a:=x.a) (by omega);have hv:=((h.top.zv.t2 M).sub h.fit.wf.cls h.fit.wf.nc h.mt.ht O).toRef (bZ c);have S:rt im s (hU d.zv):=mE h.mt.ht hv (bZ c);have p:=(h.top.zv.t1 (by omega)).sub h.fit.wf.cls h.fit.wf.nc h.mt.ht P;have n:=(yr h.fit.wf r).1
 have j:mQ (br im x) d.zv:=by
  rw[show br im x=if(fU im.zx x.b).toNat=105 then [111,105]else [111,111]from by simp[br,ho]];exact FD (by omega) D S p n
 refine h.step j _ (Or.inl ⟨ho,λY hY=> ?_⟩);obtain e| ⟨k,ob,e,hk,_,hu⟩:=hv.ref (bZ c)
 .refine(DM (h.dm.new hY) (by omega) (by omega) e).mono ?_;rintro en w' ⟨e',z⟩;refine⟨e',?_⟩;rw[show Sp.stepX im K.inp T K.cells x d.fm (ds.map Fd.fm).reverse s= .bad 6 s.out from by simp[Sp.stepX,ho,e]];exact z
 .rw[v]at hu;have E:=h.mt.ht.cls k ob hk;have H:=p.not45 (jx n);have i:=h.fit.lk b A x I ho;obtain⟨c1,c2,c3,c4,c5⟩:=yq h.fit h.mt.ht hk B r hu i H;have Z:=lT (bs:=im.zj) (m:=x.b) h.fit.wf.cls 4 (x:=ob.cls) (y:=x.a) (by omega) (by omega) hu i;have f:s.cls k=ob.cls:=(Ev.at hk).1;rw[f]at c1;obtain⟨q,F⟩: ∃q:Nat,bM im.zq im.zj x.b 5 ob.cls=q:=⟨(bM im.zq im.zj x.b 5 ob.cls).toNat,by omega⟩;have t:im.zj[q]?=some (aZ im x k s):=by rw[F]at c1;exact c1
  obtain⟨tl,G⟩:=h.fit.lc _ c2 c4;refine(DN (h.dm.new hY) (by omega) (by omega) h.img h.fit.wf e hk E hu h.hh (by omega) F t (by rw[G];simp)).mono ?_
  have L:Sp.stepX im K.inp T K.cells x d.fm (ds.map Fd.fm).reverse s=if 12<=ds.length+1 then .bad 10 s.out else .go ⟨⟨q,0,[],aL (aZ im x k s) [.o k,bT d.zv]⟩::{d.fm with zv:=dT d.zv}::(ds.map Fd.fm).reverse,s⟩:=by
   simp only[Sp.stepX,ho,e,f,F];simp
   rfl
  rw[L];rintro en w' ⟨e',⟨C,z⟩ | ⟨C,hv',fv',fo',sv',lv',vl,Q⟩⟩
  .rw[if_pos C];exact⟨e',z⟩
  .rw[if_neg C];refine⟨e',_,_,_,_,_,Q,by simp[Fd.fm],λd' hd'=> ?_⟩;simp only[List.mem_append,List.mem_singleton]at hd';obtain(hd'|rfl) |rfl:=hd'
   .exact h.pcs d' (List.mem_append_left _ hd')
   .exact hs.2.2.2
   .exact eS 0
end
section
variable {K:Dk} {w0 w w':World} {im:Img} {T:dC} {hv fv:Value} {fo:List Value} {s:Ev} {ds:List Fd} {d:Fd} {base:Nat} {L:List (Nat×List St)}
theorem DU {n:Nat} (hM:DmQ K w0 w 0 12 hv fv fo s (ds++ [d])) (hpc: ∀d'∈ds++ [d],0<=d'.pc) (hI:cH w0 K.bi im) (hF:Fit im T) (hm:MTn im T d.fm (ds.map Fd.fm).reverse s (n+1)) (ht:iM w0) (hT:iF w0 base K.tv L) (hLT:L.map (·.2)=T) (hce:K.cells<=100):
  Calls prog 67 #[.pointer (some ⟨K.mb,0,none⟩)] w (λen w'=>en= .returned (.tuple #[])/\rx K w0 (f9 im K.inp T K.cells ⟨d.fm::(ds.map Fd.fm).reverse,s⟩) w'):=by
 obtain⟨b,x,st,l,c,m,k,i⟩:=yt K.inp K.cells hF hm;rw[k];obtain⟨g,cap,rfl,a⟩:=hM.fs;have h:DAt K w0 w im T hv g cap fo s ds d b x st l:=⟨hM,a,hI,hF,hm.mt,c,hpc,by have:=hm.hn;omega⟩;have f:=h.wx.op;simp[cE]at f
 by_cases h107:x.op.toNat=107
 .exact Fu h h107
 by_cases h114:x.op.toNat=114
 .exact Fv h (by have:=hm.rn;omega) h114
 by_cases h119:x.op.toNat=119
 .exact Fx h ht (by have:=hm.on;omega) h119
 by_cases h122:x.op.toNat=122
 .exact Fw h h122
 by_cases h100:x.op.toNat=100
 .exact Fz h h100
 by_cases h108:x.op.toNat=108
 .exact FB h h108
 by_cases h115:x.op.toNat=115
 .exact FA h h115
 by_cases h106:x.op.toNat=106
 .exact FC h h106
 by_cases h102:x.op.toNat=102
 .exact Fy h h102
 by_cases h101:x.op.toNat=101
 .exact FF h h101
 by_cases h110:x.op.toNat=110
 .exact FK h hT hLT hce h110
 by_cases h120:x.op.toNat=120
 .exact FG h h120
 by_cases h103:x.op.toNat=103
 .exact FH h h103
 by_cases h112:x.op.toNat=112
 .exact FI h h112
 by_cases h99:x.op.toNat=99
 .exact FL h h99
 by_cases h116:x.op.toNat=116
 .refine FJ h (λe=> ?_) h116;subst e;have j:Sp.stepX im K.inp T K.cells x d.fm (([]:List Fd).map Fd.fm).reverse s= .fin (bT d.zv) s.out:=by simp[Sp.stepX,h116];rfl
  rw[j]at i;obtain⟨⟨n,hn,_⟩,_⟩:=i;exact⟨n,hn⟩
 exact FE h (by omega)
def ES (K:Dk) (w0:World) (im:Img) (T:dC) (RV:L_×Int×Nat) (n:Nat) (w:World):Prop:=
 (∃hv fv fo s ds d,DmQ K w0 w 0 12 hv fv fo s (ds++ [d])/\(∀d'∈ds++ [d],0<=d'.pc)/\MTn im T d.fm (ds.map Fd.fm).reverse s n/\pq im K.inp T K.cells n ⟨d.fm::(ds.map Fd.fm).reverse,s⟩=RV)\/
 (∃hv fv fo s ds,∃val:Int,∃e:Nat,(e=0\/(6<=e/\e<=10))/\DmQ K w0 w val e hv fv fo s ds/\RV=(s.out,val,e))
theorem CB {n:Nat} {RV:L_×Int×Nat} (hM:DmQ K w0 w 0 12 hv fv fo s (ds++ [d])) (hpc: ∀d'∈ds++ [d],0<=d'.pc) (hI:cH w0 K.bi im) (hF:Fit im T) (hm:MTn im T d.fm (ds.map Fd.fm).reverse s (n+1)) (ht:iM w0) (hT:iF w0 base K.tv L) (hLT:L.map (·.2)=T) (hce:K.cells<=100) (hR:pq im K.inp T K.cells (n+1) ⟨d.fm::(ds.map Fd.fm).reverse,s⟩=RV):
  Calls prog 67 #[.pointer (some ⟨K.mb,0,none⟩)] w (λen w'=>en= .returned (.tuple #[])/\ES K w0 im T RV n w'):=by
 refine(DU hM hpc hI hF hm ht hT hLT hce).mono ?_;rintro en w1 ⟨rfl,c⟩;refine⟨rfl,?_⟩;obtain⟨b,x,st,l,_,_,j,g⟩:=yt K.inp K.cells hF hm;unfold pq at hR;rw[j]at c hR
 cases hsr:Sp.stepX im K.inp T K.cells x d.fm (ds.map Fd.fm).reverse s with
 |go m=>
  rw[hsr]at c g hR;obtain⟨hv',fv',fo',ds',d',a,f,hp'⟩:=c;obtain⟨f',r',e,h⟩:=g;rw[f]at e
  cases e
  obtain⟨fr,ev⟩:=m;simp only at f a h hR;subst f;exact Or.inl ⟨_,_,_,_,_,_,a,hp',h,hR⟩
 |bad m o=>
  rw[hsr]at c g hR;obtain⟨hv',fv',fo',s',ds',i,a⟩:=c;exact Or.inr ⟨_,_,_,_,_,0,m,Or.inr ⟨g.1,g.2.1⟩,a,by rw[i];exact hR.symm⟩
 |fin v o=>
  rw[hsr]at c g hR;obtain⟨hv',fv',fo',s',i,a⟩:=c;exact Or.inr ⟨_,_,_,_,_,v.N,0,Or.inl rfl,a,by rw[i];exact hR.symm⟩
end
end
section
open Go Go.RowKit Sp
attribute [local go_sem ↓] eY eZ
theorem AK {K:Dk} {w0 w:World} (hB:B_ w0 w) (hm:DmB w K.mb K.bi K.tv S_ S_ K.inp 0 K.cells [] 0 12) (hg:w0.heap.size<=K.mb):DmQ K w0 w 0 12 S_ S_ [] ⟨[],0,0,[]⟩ []:=by
 have c: ∀a p,cT [] [] [] a≠some p:=λa p h=>by
  obtain⟨a,k⟩:=a
  match a with
  |0=>simp[cT]at h
  |1=>simp[cT]at h
  |2=>simp[cT]at h
  |_+3=>simp[cT]at h
 exact⟨hB,hm,rfl,cR _ _ _ _,cR _ _ _ _,⟨λa v l h=>absurd h (c a _),λa b v l v' l' g h=>absurd h (c a _)⟩,hg⟩
def FM (RV:L_×Int×Nat) (w w':World) (mb:Nat):Prop:=mb<w'.heap.size/\B_ w w'/\w'.cell? ⟨mb,7,none⟩=some (.string ⟨RV.1.toArray⟩)/\w'.cell? ⟨mb,8,none⟩=some (.int .i64 RV.2.1)/\w'.cell? ⟨mb,9,none⟩=some (.int .i64 RV.2.2)
theorem DmQ.ranQ {K:Dk} {w0 w:World} {val:Int} {e:Nat} {hv fv:Value} {fo:List Value} {s:Ev} {ds:List Fd} (h:DmQ K w0 w val e hv fv fo s ds):FM (s.out,val,e) w0 w K.mb:=by
 obtain⟨_,_,_,_,_,_,_,c7,a,b⟩:=h.mc.cs;exact⟨h.lt,h.old,c7,a,b⟩
section
variable {w:World} {im:Img} {T:dC} {bi base:Nat} {tv:Value} {cells fuel:Nat} {inp:ByteArray} {L:List (Nat×List St)}
theorem DV (hI:cH w bi im) (hF:Fit im T) (ht:iM w) (hT:iF w base tv L) (hLT:L.map (·.2)=T) (hce:cells<=100) (hfu:fuel<=4000):
  Calls prog 38 #[.pointer (some ⟨bi,0,none⟩),tv,.string inp,.int .i64 cells,.int .i64 fuel] w (λen w'=> ∃mb,en= .returned (.pointer (some ⟨mb,0,none⟩))/\FM (qj im inp T cells fuel) w w' mb):=by
 obtain⟨at',ct,rfl⟩:=ay hT.1;obtain⟨bs,m,P,e1⟩:=hF.main;have b:im.zj.length=bs.length+1:=by rw[P];simp
 have hq:im.zj[bs.length]?=some m:=by rw[P];simp
 obtain⟨gb,cb,ak,capk,e2,e7,f5,e8,_,f0,f1,f2,f3,f4⟩:=hI.body hq;rw[b]at e2;have b8:=(hF.wf.bod m (bn hq)).loc.1;have e3:=hF.wf.nb;have H:=hid (sZ m S_ (.slice ak m.code.length capk) ⟨_,_,_,rfl⟩ [] none 0 w b8 (by simp) 0 (cR _ _ _ _));have b2:MTn im T ⟨bs.length,0,[],aL m []⟩ [] ⟨[],0,0,[]⟩ fuel:=⟨BV hF b hq,by simp;omega,by simp;omega,by simp;omega⟩
 have b1:pq im inp T cells fuel ⟨[⟨bs.length,0,[],aL m []⟩],⟨[],0,0,[]⟩⟩=qj im inp T cells fuel:=by
  unfold qj;rw[b];simp[hq]
 have HS:=hid (λK w' hv fv fo s ds d n RV c D hm O (hK:K.bi=bi/\K.tv= .slice at' L.length ct/\K.cells=cells)=> @CB K w w' im T hv fv fo s ds d base L n RV c D (by rw[hK.1];exact hI) hF hm ht (by rw[hK.2.1];exact hT) hLT (by rw[hK.2.2];exact hce) O);generalize qj im inp T cells fuel=RV at*;have a0:=hid b2;have Z:=hid b1;rw[b]at e3;clear b2 b1 hI hF ht hT hLT P e1 b hq;generalize bs.length=q at*;generalize L.length=nL at*;obtain⟨i0,b7,e4,e5,e6⟩:=info_parts Cx;simp only[List.length_nil]at H
 go_in
 go_wp2_with fail;refine H.out.mono ?_;rintro en w1 ⟨vl,rfl,M,y⟩;obtain⟨al,cl,rfl⟩:=ay M;clear H e2 f0 f1 f2 f3 f4;generalize b4:aL m []=LL at*;clear b4;obtain⟨w2,E⟩: ∃w2,w1.alloc (.cells #[.pointer (some ⟨bi,0,none⟩),.slice at' nL ct,S_,S_,.string inp,.int .i64 0,.int .i64 cells,.string ⟨#[]⟩,.int .i64 0,.int .i64 12] 72)=w2:=⟨_,rfl⟩;have z:B_ w1 w2:=by rw[<-E];exact aa _ _ _
 have f:DmQ ⟨w1.heap.size,bi,.slice at' nL ct,inp,cells⟩ w w2 0 12 S_ S_ [] ⟨[],0,0,[]⟩ []:=AK (y.trans z) (by rw[<-E];exact aO _ _) y.size;have a1:=hid E;clear E;have c3:=f.mc.cs.2.2.2.1;have z3:=f.mc.fz 3;have B:=f.lt;have a2:=ag M z (λ_ _ h=>h);have g1:=y.size;have g0:=z.size;have I:=hid f;have Y:=hid a2;clear f M a2 y z;generalize b0:LL.length=nl at*;have b3:=hid b0;clear b0;generalize a6:w1.heap.size=mb at*;have Q:=I.out.fr
 have F:=hid (λX fv'=>I.out.call (w1:=X) (fv':=fv') (q:=q) (vl:= .slice al nl cl) (l:=LL) (by rw[b3.out];exact fc Y.out (bP _)) (λg hg a v l ha=>by
  obtain⟨a,k⟩:=a
  match a with
  |0=>simp[cT]at ha
  |1=>simp[cT]at ha
  |2=>simp[cT]at ha
  |_+3=>simp[cT]at ha))
 rw[<-a1.out]at Q F c3 z3 B;clear I Y a1;go_wp2_with (at_builtin;refine wpList_append_lies _ rfl _ _ _ rfl w.heap.size 121 i0 _ 4 64 (by kernel_rfl) b7 e4 e5 e6 rfl (by omega) _ 0 [] rfl (Q.alloc _) ⟨mb+1,0,none⟩ 1 1 [.int .i64 q,.int .i64 0,S_,.slice al nl cl] rfl rfl (iu (cs:=#[.int .i64 q,.int .i64 0,S_,.slice al nl cl]) (t:=121) (fr:=(0,0)) (aB (by simp[a6]) _)) (by simp[Value.oneCell']) (by omega) (by unfold maxLen;omega) (by omega) (by simp;omega) (mb+1+1) (by simp[a6]) ?_);intro gg cap3 X r j b6 c8;have i:=(aa (λk=>(Value.slice none 0 0).ownBlock=some k) _ _).trans (a8 j)
 have y0:=(i.cell (p:=⟨mb,3,none⟩) B (λe=>by cases e)).trans c3;have y1:=(i.frozen (p:=⟨mb,3,none⟩) B (λe=>by cases e)).trans z3;have e0:mb<X.heap.size:=bK B i.size;have c:=F.out X (.slice (some ⟨gg,0,none⟩) 1 cap3) i (by simpa[d9,fdC]using r)
 have A:ES ⟨mb,bi,.slice at' nL ct,inp,cells⟩ w im T RV fuel (X.setCell ⟨mb,3,none⟩ (.slice (some ⟨gg,0,none⟩) 1 cap3)):=
  Or.inl ⟨_,_,_,_,[],_,c,λd' hd=>by simp at hd;subst hd;exact eS 0,a0.out,Z.out⟩
 have HJ:=hid A;clear A c F r j b6 i c3 z3 Q a0 Z;go_wp2_with fail;generalize (X.setCell ⟨mb,3,none⟩ (.slice (some ⟨gg,0,none⟩) 1 cap3))=w7 at*
 go_loopg [14] fuel (λmm is wr=> ∃k:Nat,is= .int .i64 k/\k+mm<=fuel/\fuel<=k+mm/\Hid (ES ⟨mb,bi,.slice at' nL ct,inp,cells⟩ w im T RV mm wr))
 case atStart=>exact⟨0,rfl,by omega,by omega,HJ⟩
 case round=>
  clear HJ y0 y1 e0;obtain⟨k,rfl,a3,a4,A⟩:=hrel;obtain⟨hv,fv,fo,s,ds,d,c,D,hm,O⟩ | ⟨hv,fv,fo,s,ds,val,e,he,c,O⟩:=A.out
  .have c9:=c.mc.cs.2.2.2.2.2.2.2.2.2;have z9:=c.mc.fz 9;have C:=c.lt;have S:=hid c;have HP:=hid D;have J:=hid O;have x:=hid hm;simp only at c9 z9 C;clear A c D O hm;obtain h0|h0:=Nat.eq_zero_or_pos gk
   .have a5: ¬(k:Int)<(fuel:Int):=by omega
    rw[h0]at J;clear h0 a3 a4 x HP;go_wp2_with fail;go_ret;have b5:=S.out.own (val':=0) (e':=5) (s':=s) (aj wr mb 9 (.int .i64 5)) rfl (S.out.mc.set9 5);refine⟨mb,rfl,?_⟩;rw[<-J.out];exact b5.ranQ (e:=5)
   .obtain⟨n,hn⟩: ∃n,gk=n+1:=⟨gk-1,by omega⟩;have G:=hid hn;rw[hn]at J x;have a5:(k:Int)<(fuel:Int):=by omega
    have f6:=dc ((k:Int)+1) (by omega) (by omega);clear hn;have HC:=hid (HS.out ⟨mb,bi,.slice at' nL ct,inp,cells⟩ wr _ _ _ _ _ _ n RV S.out HP.out x.out J.out ⟨rfl,rfl,rfl⟩);simp only at HC;clear S HP x J;go_wp2_with fail;refine HC.out.mono ?_;rintro en w8 ⟨rfl,A⟩;have HJ:=hid A;clear A HC c9 z9 C;go_wp2_with fail
    go_roundg n
    case measure=>have:=G.out;omega
    case rel=>exact⟨k+1,by simp,by have:=G.out;omega,by have:=G.out;omega,HJ⟩
  .have c9:=c.mc.cs.2.2.2.2.2.2.2.2.2;have C:=c.lt;have S:=hid c;have J:=hid O;have b9:=tf e 12 (by omega);simp only at c9 C;clear A c O a3 a4
   by_cases a5:(k:Int)<(fuel:Int)
   all_goals
    go_wp2_with fail;go_ret;refine⟨mb,rfl,?_⟩;rw[J.out];exact S.out.ranQ
end
theorem AL (inp:ByteArray) (cells fuel:Int) (w:World) (hg:40<inp.size\/cells<0\/100<cells\/fuel<0\/4000<fuel):
  Calls prog 71 #[.string inp,.int .i64 cells,.int .i64 fuel] w λen w'=>en= .returned (.bool false)/\w'=w:=by
 have a: ¬(inp.size:Int)<=40\/((inp.size:Int)<=40/\ ¬0<=cells)\/((inp.size:Int)<=40/\0<=cells/\ ¬cells<=100)\/((inp.size:Int)<=40/\0<=cells/\cells<=100/\ ¬0<=fuel)\/((inp.size:Int)<=40/\0<=cells/\cells<=100/\0<=fuel/\ ¬fuel<=4000):=by omega
 clear hg;obtain g| ⟨g,g2⟩ | ⟨g,g2,g3⟩ | ⟨g,g2,g3,g4⟩ | ⟨g,g2,g3,g4,g5⟩:=a
 all_goals
  go_in
  go_wp2_with fail;go_ret;exact⟨rfl,rfl⟩
theorem AM (inp:ByteArray) (cells fuel:Int) (w:World) (hg: ¬(40<inp.size\/cells<0\/100<cells\/fuel<0\/4000<fuel)):
  Calls prog 71 #[.string inp,.int .i64 cells,.int .i64 fuel] w λen w'=>en= .returned (.bool true)/\w'=w:=by
 have a:(inp.size:Int)<=40:=by omega
 have b:0<=cells:=by omega
 have c:cells<=100:=by omega
 have d:0<=fuel:=by omega
 have e:fuel<=4000:=by omega
 clear hg
 go_in
 go_wp2_with fail;go_ret;exact⟨rfl,rfl⟩
theorem wE (s inp:ByteArray) (cells fuel:Int) (w:World) (hmax:s.size<=maxLen) (htab:iM w):
  Calls prog 48 #[.string s,.string inp,.int .i64 cells,.int .i64 fuel] w λen w'=>en= .returned (.tuple #[.string ⟨(kW s inp cells fuel).1.toArray⟩,.int .i64 (kW s inp cells fuel).2.1,.int .i64 (kW s inp cells fuel).2.2])/\B_ w w':=by
 obtain⟨RR,a⟩: ∃RR,kW s inp cells fuel=RR:=⟨_,rfl⟩;rw[a]
 by_cases hg:40<inp.size\/cells<0\/100<cells\/fuel<0\/4000<fuel
 .have n:RR=([],0,1):=by rw[<-a];unfold kW;rw[if_pos hg]
  subst n;have q:=hid (AL inp cells fuel w hg);clear a hg
  go_in
  go_wp2_with fail;refine q.out.mono ?_;rintro en w1 ⟨rfl,rfl⟩;go_wp2_with fail;exact cA (v:= .tuple #[.string ⟨#[]⟩,.int .i64 0,.int .i64 1]) (by simp[results,results48,go_sem]) rfl ⟨rfl,bf _ _⟩
 .have q:=hid (AM inp cells fuel w hg);unfold kW at a;rw[if_neg hg]at a;obtain⟨fu,rfl⟩: ∃fu:Nat,fuel=fu:=⟨fuel.toNat,by omega⟩;obtain⟨ce,rfl⟩: ∃ce:Nat,cells=ce:=⟨cells.toNat,by omega⟩;have x:fu<=4000:=by omega
  have t:ce<=100:=by omega
  clear hg;have h:=hid (qs s w hmax);have b:=hid a;clear a
  go_in
  go_wp2_with fail;refine q.out.mono ?_;rintro en w0 ⟨rfl,rfl⟩;go_wp2_with fail;refine h.out.mono ?_;rintro en w1 ⟨rfl,c,hp⟩;have a:=b.out;clear b h q
  cases hl:gQ s with
  |error ep=>
   obtain⟨e,p⟩:=ep;rw[hl]at a;have:=sE hl;simp only at a;subst a;have B:=tf e 0 (by omega);simp only[nG];clear hl hp;go_wp2_with fail;exact cA (v:= .tuple #[.string ⟨#[]⟩,.int .i64 0,.int .i64 e]) (by simp[results,results48,go_sem]) rfl ⟨rfl,c⟩
  |ok im=>
   rw[hl]at a hp;simp only[nG];have hp':cH w1 w0.heap.size im/\WfI im:=hp;simp only at a;have z:=hid hl;have b:=hid a;clear hp hl a;go_wp2_with fail;refine(qu w0.heap.size im w1 hp'.1 hp'.2).mono ?_;rintro en E ⟨d,m⟩;have a:=b.out;clear b
   cases ht:gY im 0 im.zj with
   |error k=>
    rw[ht]at a m;simp only at a;subst a;have y:en= .returned (.tuple #[S_,.int .i64 k,.bool false]):=m;subst y;clear m ht;go_wp2_with fail;exact cA (v:= .tuple #[.string ⟨#[]⟩,.int .i64 0,.int .i64 4]) (by simp[results,results48,go_sem]) rfl ⟨rfl,c.trans d⟩
   |ok T=>
    rw[ht]at a m;simp only[jZ]at a;obtain⟨v,l,j,rfl,g⟩:=m;have i:=c.trans d;have f:=hid (DV (inp:=inp) (hp'.1.but d) (En z.out (BW ht)) (htab.but i) g j t x);rw[a]at f;obtain⟨av,cv,rfl⟩:=ay g.1;clear ht j g hp' a z c d;generalize l.length=nl at*;go_wp2_with fail;refine f.out.mono ?_;rintro en F ⟨mb,rfl,A,r,c7,C,D⟩;clear f;go_wp2_with fail
    go_quiet (fail)
    go_wp2_with fail;exact cA (v:= .tuple #[.string ⟨RR.1.toArray⟩,.int .i64 RR.2.1,.int .i64 RR.2.2]) (by simp[results,results48,go_sem]) rfl ⟨rfl,(i.trans r).trans (aH _ _ _)⟩
end
end Go.Proofs.YtpfkkmacakjmbaaGreatDoor
