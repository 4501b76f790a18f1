import Derived.Test.YtpfkkmacakjmbaaGreatDoorP28
set_option maxRecDepth 100000
set_option maxHeartbeats 6400000
set_option linter.all false
namespace Go.Proofs.YtpfkkmacakjmbaaGreatDoor
open Proofs.Tryz
section
open Go Go.RowKit Sp
theorem fZ {a:Nat} (h:a<100):(UInt8.ofNat (65+a)).toNat=65+a:=by simp;omega
theorem lZ {cs:List Cls} (hn:cs.length<=4) {a:Nat} (ha:a<cs.length):bV (cs.map toX) (UInt8.ofNat (65+a))=bF cs a:=by
 have b:=fZ (a:=a) (by omega);have c:aQ cs.length (UInt8.ofNat (65+a))=true:=by simp[aQ];omega
 unfold bV;rw[bZ,c,if_pos rfl,b,show 65+a-65=a from by omega];simp[bF,toX,Option.map_map,Function.comp_def]
theorem sD {cs:List Cls} (hw:WfC cs) (hn:cs.length<=4) {a c:Nat} (ha:a<cs.length) (hc:c<cs.length):dT (cs.map toX) (UInt8.ofNat (65+a)) (cs.map toX).length (UInt8.ofNat (65+c))=cB cs 5 c a:=by
 have b:=fZ (a:=a) (by omega);have d:=fZ (a:=c) (by omega);have k1:kl (UInt8.ofNat (65+a))=a:=by simp[kl];omega
 have k2:kl (UInt8.ofNat (65+c))=c:=by simp[kl];omega
 rw[bZ,o9 hw hn (by simp[aQ];omega) (by simp[aQ];omega) (by rw[k2];omega) (by omega),k1,k2]
end
section
open Go Go.RowKit Sp
attribute [local go_sem ↓] eF eG
structure FrS (P:Nat->Prop) (w0 w:World) (im:Img) (b:Bod) (bf d:Nat) (X:bK) (vl vi:Value) (bl:Nat):Prop where
 fr:FrB w bf d X vl vi bl
 pf:P bf
 bd:DI w0 im.zx b X vl vi
theorem NB.drew {w X:World} (h:NB w X):NB w X.drew:=⟨h.but.trans (aD _ _),λk a b=>h.nb k a b⟩
section
variable {P:Nat->Prop} {w0 w w1 X:World} {be bw tx bl:Nat} {inp:ByteArray} {s:Ev} {lv vo vb:Value} {l:List V} {gs:List Nat} {fv:List Value} {im:Img} {b:Bod} {bf d:Nat} {Xb:bK} {vl vi:Value}
theorem FrS.but (h:FrS P w0 w im b bf d Xb vl vi bl) (hB:But (FrQ P w0) w w1):FrS P w0 w1 im b bf d Xb vl vi bl:=⟨h.fr.but hB (λhf=>hf.2 h.pf),h.pf,h.bd⟩
theorem FrS.grown (h:FrS P w0 w im b bf d Xb vl vi bl) (hN:NB w X):FrS (PQ P w X) w0 X im b bf d Xb vl vi bl:=⟨h.fr.but hN.but (λh=>h),Or.inl h.pf,h.bd⟩
theorem FrS.cells (h:FrS P w0 w im b bf d Xb vl vi bl):w.cell? ⟨bf,0,none⟩=some (.int .i64 d)/\w.cell? ⟨bf,1,none⟩=some (.int .u8 Xb.cls.toNat)/\w.cell? ⟨bf,2,none⟩=some (.int .i64 Xb.meth)/\w.cell? ⟨bf,3,none⟩=some (.int .u8 Xb.ans.toNat)/\w.cell? ⟨bf,4,none⟩=some vl/\w.cell? ⟨bf,5,none⟩=some vi/\w.cell? ⟨bf,6,none⟩=some (.pointer (some ⟨bl,0,none⟩))/\bf<w.heap.size:=by
 have a:=h.fr;unfold FrB at a;exact⟨by rw[bU w bf 0 _ _ (0,0) a];rfl,by rw[bU w bf 1 _ _ (0,0) a];rfl,by rw[bU w bf 2 _ _ (0,0) a];rfl,by rw[bU w bf 3 _ _ (0,0) a];rfl,by rw[bU w bf 4 _ _ (0,0) a];rfl,by rw[bU w bf 5 _ _ (0,0) a];rfl,by rw[bU w bf 6 _ _ (0,0) a];rfl,ae a⟩
theorem ReV.pass {r:R} {en:Ending} (hN:NB w X) (h0:w0.heap.size<=w.heap.size) (h:ReV (PQ P w X) w0 X be bw tx inp bl lv r en w1):
  ∃K N e:Int,en= .returned (.tuple #[.agg #[.int .i32 K,.int .i64 N],.int .i64 e])/\ ∀r0,w.heap.size<=r0->dE X r0->dE w1 r0/\ReV P w0 w be bw tx inp bl lv r (.returned (.tuple #[.agg #[.int .i32 K,.int .i64 N],.int .i64 e])) ((w1.setCell ⟨r0,0,none⟩ (.int .i32 K)).setCell ⟨r0,1,none⟩ (.int .i64 N)):=by
 obtain⟨f,vo,vb,gs,fv,h⟩:=h
 cases r with
 |ok u l s=>
  obtain⟨rfl,d⟩:=h;refine⟨xN u,xO u,0,rfl,λr0 hr hx=> ?_⟩;obtain⟨a,b,c⟩:=StQ.fin hN h0 d f hr hx (xN u) (xO u);exact⟨a,b,vo,vb,gs,fv,rfl,c⟩
 |bad e o=>
  obtain⟨rfl,s,l,g,d⟩:=h;refine⟨0,0,cr e,rfl,λr0 hr hx=> ?_⟩;obtain⟨a,b,c⟩:=StQ.fin hN h0 d f hr hx 0 0;exact⟨a,b,vo,vb,gs,fv,rfl,s,l,g,c⟩
structure DoW (w W:World) (pl op n pn pc:Nat) (c:UInt8) (pa:Option Addr) (u v:V):Prop where
 nb:NB w W
 b0:W.heap[w.heap.size]?=some (.cells #[.int .i64 pl,.int .u8 op,.int .u8 c.toNat,.int .i64 n,.slice pa pn pc] 219)
 b1:W.heap[w.heap.size+1]?=some (.cells #[.int .i32 (xN u),.int .i64 (xO u)] 168)
 b2:W.heap[w.heap.size+1+1]?=some (.cells #[.int .i32 (xN v),.int .i64 (xO v)] 168)
 b3:W.heap[w.heap.size+1+1+1]?=some (.cells #[.int .i32 0,.int .i64 0] 168)
 sz:W.heap.size=w.heap.size+1+1+1+1
theorem doW {pl op n pn pc:Nat} {c:UInt8} {pa:Option Addr} {u v:V}:DoW w ((((w.alloc (.cells #[.int .i64 pl,.int .u8 op,.int .u8 c.toNat,.int .i64 n,.slice pa pn pc] 219)).alloc (.cells #[.int .i32 (xN u),.int .i64 (xO u)] 168)).alloc (.cells #[.int .i32 (xN v),.int .i64 (xO v)] 168)).alloc (.cells #[.int .i32 0,.int .i64 0] 168)) pl op n pn pc c pa u v:=by
 refine⟨fH,?_,?_,?_,aw (by simp) _,by simp⟩
 .exact((((ag (λ_=>False) _ _).trans (ag _ _ _)).trans (ag _ _ _)).block _ (by simp) (λh=>h)).trans (bj w _)
 .exact(((ag (λ_=>False) _ _).trans (ag _ _ _)).block _ (by simp) (λh=>h)).trans (aw (by simp) _)
 .exact((ag (λ_=>False) _ _).block _ (by simp) (λh=>h)).trans (aw (by simp) _)
section
variable {W:World} {pl op n pn pc:Nat} {c:UInt8} {pa:Option Addr} {u v:V}
theorem DoW.item (h:DoW w W pl op n pn pc c pa u v):W.cell? ⟨w.heap.size,0,none⟩=some (.int .i64 pl)/\W.cell? ⟨w.heap.size,1,none⟩=some (.int .u8 op)/\W.cell? ⟨w.heap.size,2,none⟩=some (.int .u8 c.toNat)/\W.cell? ⟨w.heap.size,3,none⟩=some (.int .i64 n)/\W.cell? ⟨w.heap.size,4,none⟩=some (.slice pa pn pc):=
 ⟨by rw[bU W _ 0 _ _ (0,0) h.b0];rfl,by rw[bU W _ 1 _ _ (0,0) h.b0];rfl,by rw[bU W _ 2 _ _ (0,0) h.b0];rfl,by rw[bU W _ 3 _ _ (0,0) h.b0];rfl,by rw[bU W _ 4 _ _ (0,0) h.b0];rfl⟩
theorem DoW.vals (h:DoW w W pl op n pn pc c pa u v):W.cell? ⟨w.heap.size+1,0,none⟩=some (.int .i32 (xN u))/\W.cell? ⟨w.heap.size+1,1,none⟩=some (.int .i64 (xO u))/\W.cell? ⟨w.heap.size+1+1,0,none⟩=some (.int .i32 (xN v))/\W.cell? ⟨w.heap.size+1+1,1,none⟩=some (.int .i64 (xO v)):=
 ⟨by rw[bU W _ 0 _ _ (0,0) h.b1];rfl,by rw[bU W _ 1 _ _ (0,0) h.b1];rfl,by rw[bU W _ 0 _ _ (0,0) h.b2];rfl,by rw[bU W _ 1 _ _ (0,0) h.b2];rfl⟩
end
theorem eK (h:StQ P w0 w be bw tx inp s bl lv l vo vb gs fv) (u v:V) (pl op n pn pc:Nat) (c:UInt8) (pa:Option Addr) (r:R) (n1:op≠44) (n2:op≠108) (n3:op≠115) (n4:op≠99)
  (HD: ∀X,NB w X->Calls prog 197 #[.pointer (some ⟨bw,0,none⟩),.agg #[.int .i64 pl,.int .u8 op,.int .u8 c.toNat,.int .i64 n,.slice pa pn pc],aI u,aI v] X (ReV (PQ P w X) w0 X be bw tx inp bl lv r)):
  Calls prog 156 #[.pointer (some ⟨be,0,none⟩),.pointer (some ⟨bf,0,none⟩),.agg #[.int .i64 pl,.int .u8 op,.int .u8 c.toNat,.int .i64 n,.slice pa pn pc],aI u,aI v] w (ReV P w0 w be bw tx inp bl lv r):=by
 have t:=hid HD;have I:=h.old.size;have x:=h.ev.c1;have p:=h.ev.lt;have t1:((op:Int)==44)=false:=tsf (k:=44) n1;have t2:((op:Int)==108)=false:=tsf (k:=108) n2;have t3:((op:Int)==115)=false:=tsf (k:=115) n3;have t4:((op:Int)==99)=false:=tsf (k:=99) n4;have a:=hid (doW (w:=w) (pl:=pl) (op:=op) (n:=n) (pn:=pn) (pc:=pc) (c:=c) (pa:=pa) (u:=u) (v:=v));clear HD n1 n2 n3 n4;unfold aI at*
 go_in
 go_wp2_with fail;revert a;generalize ((((w.alloc (.cells #[.int .i64 pl,.int .u8 op,.int .u8 c.toNat,.int .i64 n,.slice pa pn pc] 219)).alloc (.cells #[.int .i32 (xN u),.int .i64 (xO u)] 168)).alloc (.cells #[.int .i32 (xN v),.int .i64 (xO v)] 168)).alloc (.cells #[.int .i32 0,.int .i64 0] 168))=W;intro a;have f:=a.out;obtain⟨z,A,B,C,D⟩:=f.item;obtain⟨v0,v1,v2,G⟩:=f.vals;have L:=f.sz;have m:=f.nb;have e1W:=m.but.kc x p;have q:dE W (w.heap.size+1+1+1):=⟨0,0,f.b3⟩;have y:=h.k1;clear a f h x;have d:B_ W W.drew:=aD _ _;have m0:w.heap.size<W.heap.size:=by omega
 have E:w.heap.size+1<W.heap.size:=by omega
 have F:w.heap.size+1+1<W.heap.size:=by omega
 have M:be<W.heap.size:=by omega
 refine aF (B_ W) 7 ?_
 iterate 7 (refine eT (v:=?_) rfl d ?_ ?_;rotate_left;(focus (intro wS h;have S:=(h.kc e1W M);have T:=(h.kc z m0);have Y:=(h.kc A m0);have Z:=(h.kc B m0);have q4:=(h.kc C m0);have q5:=(h.kc D m0);have q6:=(h.kc v0 E);have q7:=(h.kc v1 E);have q8:=(h.kc v2 F);have q9:=(h.kc G F);clear h;go_simp;try rfl));dsimp only[Act.put];try simp only[bW])
 refine au rfl ?_;intro KS hKS;go_simp;refine(t.out _ (m.drew)).mono ?_;intro en w1 j;obtain⟨K,N,e,rfl,b⟩:=ReV.pass m.drew I j;refine hKS.out _ _ nofun ?_;clear hKS KS
 iterate 2 (refine jf (v:=?_) rfl ?_ ?_;rotate_left;(focus (intro wS;go_simp;try rfl));dsimp only[Act.put];try simp only[bW])
 obtain⟨i,g⟩:=b (w.heap.size+1+1+1) (by omega) (q.but d (λh=>h));obtain⟨O,Q,r0,r1,z0,z1,J⟩:=i.parts;have H:=hid g;clear g b j t z A B C D v0 v1 v2 G e1W d;refine md rfl ?_;go_wp2_with fail;exact dI results156 rfl rfl rfl (i.put _ _) H.out
theorem AK (h:StQ P w0 w be bw tx inp s bl lv l vo vb gs fv) (hF:FrS P w0 w im b bf d Xb vl vi bl) (u v:V) (pl n pn pc:Nat) (c:UInt8) (pa:Option Addr):
  Calls prog 156 #[.pointer (some ⟨be,0,none⟩),.pointer (some ⟨bf,0,none⟩),.agg #[.int .i64 pl,.int .u8 44,.int .u8 c.toNat,.int .i64 n,.slice pa pn pc],aI u,aI v] w (ReV P w0 w be bw tx inp bl lv (.ok v l s)):=by
 have a:=hid h;clear h hF;unfold aI at*
 go_in
 go_wp2_with fail;exact dI results156 rfl rfl rfl (aw (by simp) _) ⟨fH.but.mono (λ_ _ h=>h.elim),vo,vb,gs,fv,rfl,a.out.new fH.but⟩
theorem FS (h:StQ P w0 w be bw tx inp s bl lv l vo vb gs fv) (hF:FrS P w0 w im b bf d Xb vl vi bl) (u v:V) (pl n pn pc:Nat) (c:UInt8) (pa:Option Addr) (q:V) (hq:l[n]?=some q):
  Calls prog 156 #[.pointer (some ⟨be,0,none⟩),.pointer (some ⟨bf,0,none⟩),.agg #[.int .i64 pl,.int .u8 108,.int .u8 c.toNat,.int .i64 n,.slice pa pn pc],aI u,aI v] w (ReV P w0 w be bw tx inp bl lv (.ok q l s)):=by
 have e:=hid (doW (w:=w) (pl:=pl) (op:=108) (n:=n) (pn:=pn) (pc:=pc) (c:=c) (pa:=pa) (u:=u) (v:=v));rw[show((108:Nat):Int)=108 from rfl]at e;obtain⟨_,_,_,_,_,_,z,m⟩:=hF.cells;have x:=hid (λX (hX:B_ w X)=>DG (h.new hX) n q hq);have y:=hid h;clear h hF hq;unfold aI at*
 go_in
 go_wp2_with fail;revert e;generalize ((((w.alloc (.cells #[.int .i64 pl,.int .u8 108,.int .u8 c.toNat,.int .i64 n,.slice pa pn pc] 219)).alloc (.cells #[.int .i32 (xN u),.int .i64 (xO u)] 168)).alloc (.cells #[.int .i32 (xN v),.int .i64 (xO v)] 168)).alloc (.cells #[.int .i32 0,.int .i64 0] 168))=W;intro e;have g:=e.out;obtain⟨D,E,F,A,G⟩:=g.item;have C:=g.sz;have k:=g.nb;have c6W:=k.but.kc z m;have t:dE W (w.heap.size+1+1+1):=⟨0,0,g.b3⟩;clear e g z D E F G;have f:B_ W W.drew:=aD _ _;have m0:w.heap.size<W.heap.size:=by omega
 have H:bf<W.heap.size:=by omega
 refine aF (B_ W) 6 ?_
 iterate 6 (refine eT (v:=?_) rfl f ?_ ?_;rotate_left;(focus (intro wS h;have L:=(h.kc c6W H);have M:=(h.kc A m0);clear h;go_simp;try rfl));dsimp only[Act.put];try simp only[bW])
 refine au rfl ?_;intro KS hKS;go_simp;refine(x.out _ (k.but.trans f)).mono ?_;rintro en w1 ⟨rfl,j⟩;refine hKS.out _ _ nofun ?_;clear hKS KS x;have i:=hid (λa b=>y.out.fin0 k (f.trans j) (r:=w.heap.size+1+1+1) (by omega) t a b);obtain⟨I,J,r0,O,Q,S,B⟩:=(i.out 0 0).1.parts;have p:=(i.out 0 0).1;clear y A c6W f;refine md rfl ?_;go_wp2_with fail;exact dI results156 rfl rfl rfl (p.put _ _) ⟨(i.out _ _).2.1,_,_,_,_,rfl,(i.out _ _).2.2⟩
theorem FT (h:StQ P w0 w be bw tx inp s bl lv l vo vb gs fv) (hF:FrS P w0 w im b bf d Xb vl vi bl) (u v:V) (pl n pn pc:Nat) (c:UInt8) (pa:Option Addr) (hn:n<l.length):
  Calls prog 156 #[.pointer (some ⟨be,0,none⟩),.pointer (some ⟨bf,0,none⟩),.agg #[.int .i64 pl,.int .u8 115,.int .u8 c.toNat,.int .i64 n,.slice pa pn pc],aI u,aI v] w (ReV P w0 w be bw tx inp bl lv (.ok (.i 0) (l.set n u) s)):=by
 have e:=hid (doW (w:=w) (pl:=pl) (op:=115) (n:=n) (pn:=pn) (pc:=pc) (c:=c) (pa:=pa) (u:=u) (v:=v));rw[show((115:Nat):Int)=115 from rfl]at e;obtain⟨_,_,_,_,_,_,z,q⟩:=hF.cells;have y:=hid (λX (hX:NB w X)=>tX (h.grown hX) n u hn);have C:=h.old.size;clear h hF hn;unfold aI at*
 go_in
 go_wp2_with fail;revert e;generalize ((((w.alloc (.cells #[.int .i64 pl,.int .u8 115,.int .u8 c.toNat,.int .i64 n,.slice pa pn pc] 219)).alloc (.cells #[.int .i32 (xN u),.int .i64 (xO u)] 168)).alloc (.cells #[.int .i32 (xN v),.int .i64 (xO v)] 168)).alloc (.cells #[.int .i32 0,.int .i64 0] 168))=W;intro e;have g:=e.out;obtain⟨F,G,H,A,I⟩:=g.item;obtain⟨v0,v1,v2,L⟩:=g.vals;have E:=g.sz;have p:=g.nb;have c6W:=p.but.kc z q;have x:dE W (w.heap.size+1+1+1):=⟨0,0,g.b3⟩;clear e g z F G H I v2 L;have f:B_ W W.drew:=aD _ _;have m0:w.heap.size<W.heap.size:=by omega
 have B:w.heap.size+1<W.heap.size:=by omega
 have J:bf<W.heap.size:=by omega
 refine aF (B_ W) 7 ?_
 iterate 7 (refine eT (v:=?_) rfl f ?_ ?_;rotate_left;(focus (intro wS h;have Q:=(h.kc c6W J);have S:=(h.kc A m0);have T:=(h.kc v0 B);have Y:=(h.kc v1 B);clear h;go_simp;try rfl));dsimp only[Act.put];try simp only[bW])
 refine au rfl ?_;intro KS hKS;go_simp;refine(y.out _ p.drew).mono ?_;rintro en w1 ⟨rfl,j,k⟩;refine hKS.out _ _ nofun ?_;clear hKS KS y;refine aK rfl ?_;have m:=hid (λa b=>StQ.fin p.drew C k j (r:=w.heap.size+1+1+1) (by omega) (x.but f (λh=>h)) a b);obtain⟨M,O,r0,Z,z0,z1,D⟩:=(m.out 0 0).1.parts;have t:=(m.out 0 0).1;clear A c6W f v0 v1 k j;go_wp2_with fail;exact dI results156 rfl rfl rfl (t.put _ _) ⟨(m.out _ _).2.1,_,_,_,_,rfl,(m.out _ _).2.2⟩
theorem FU (h:StQ P w0 w be bw tx inp s bl lv l vo vb gs fv) (u v:V) (pl n pn pc:Nat) (c:UInt8) (pa:Option Addr) (r:R)
  (HD: ∀X,NB w X->Calls prog 208 #[.pointer (some ⟨be,0,none⟩),.pointer (some ⟨bf,0,none⟩),.agg #[.int .i64 pl,.int .u8 99,.int .u8 c.toNat,.int .i64 n,.slice pa pn pc],aI u,aI v] X (ReV (PQ P w X) w0 X be bw tx inp bl lv r)):
  Calls prog 156 #[.pointer (some ⟨be,0,none⟩),.pointer (some ⟨bf,0,none⟩),.agg #[.int .i64 pl,.int .u8 99,.int .u8 c.toNat,.int .i64 n,.slice pa pn pc],aI u,aI v] w (ReV P w0 w be bw tx inp bl lv r):=by
 have a:=hid (doW (w:=w) (pl:=pl) (op:=99) (n:=n) (pn:=pn) (pc:=pc) (c:=c) (pa:=pa) (u:=u) (v:=v));rw[show((99:Nat):Int)=99 from rfl]at a;have k:=hid HD;have q:=h.old.size;clear h HD;unfold aI at*
 go_in
 go_wp2_with fail;revert a;generalize ((((w.alloc (.cells #[.int .i64 pl,.int .u8 99,.int .u8 c.toNat,.int .i64 n,.slice pa pn pc] 219)).alloc (.cells #[.int .i32 (xN u),.int .i64 (xO u)] 168)).alloc (.cells #[.int .i32 (xN v),.int .i64 (xO v)] 168)).alloc (.cells #[.int .i32 0,.int .i64 0] 168))=W;intro a;have i:=a.out;have x:=i.sz;have m:=i.nb;have j:dE W (w.heap.size+1+1+1):=⟨0,0,i.b3⟩;refine(k.out _ m).mono ?_;intro en w1 g;obtain⟨K,N,e,rfl,b⟩:=ReV.pass m q g;obtain⟨f,d⟩:=b (w.heap.size+1+1+1) (by omega) j;obtain⟨y,z,r0,A,B,C,t⟩:=f.parts;have p:=hid d;clear d b g k a i;go_wp2_with fail;exact dI results156 rfl rfl rfl (f.put _ _) p.out
end
section
variable {P:Nat->Prop} {w0 w:World} {be bw tx bl:Nat} {inp:ByteArray} {s:Ev} {lv vo vb:Value} {l:List V} {gs:List Nat} {fv:List Value}
theorem StQ.add (h:StQ P w0 w be bw tx inp s bl lv l vo vb gs fv) {k:Nat} {c:Array Value} {fz:Nat×Nat} (hk:w.heap[k]?=some (.cells c 234 fz)):StQ (λj=>P j\/j=k) w0 w be bw tx inp s bl lv l vo vb gs fv:=by
 refine⟨h.old,h.ev,h.wd,h.out,h.ob,h.lg,h.lf,h.obs,h.nd,h.lb,h.lo,λj hj=>⟨(h.own j hj).1,λhp=> ?_⟩,λj hj=> ?_,h.sl,h.sf⟩
 .obtain hp|rfl:=hp
  .exact(h.own j hj).2 hp
  .obtain rfl|rfl|rfl|hj|hj|hj|hj| ⟨v,hv,hj⟩:=hj
   .exact bL h.ev hk (by decide) rfl
   .exact bL h.wd hk (by decide) rfl
   .exact bL h.lb hk (by decide) rfl
   .exact aE h.out hk (by decide) hj
   .exact aE h.ob hk (by decide) hj
   .exact aE h.lo hk (by decide) hj
   .obtain⟨c',v',a⟩:=h.mg hj;exact bL a hk (by decide) rfl
   .obtain⟨n',xs,a⟩:=h.mv hv;exact aE a hk (by decide) hj
 .obtain hj|rfl:=hj
  .exact h.pl j hj
  .exact⟨ae hk,λc' fz' e=>by rw[hk]at e;injection e with e;injection e with _ h2;exact absurd h2 (by decide)⟩
end
def jQ (im:Img) (inp:ByteArray) (w0:World) (be bw tx f:Nat):Prop:=
 ∀(b:Bod) (d i:Nat) (l:List V) (s:Ev) (t:UInt8) (F B:Nat) (P:Nat->Prop) (w:World) (bl:Nat) (lv vo vb:Value) (gs:List Nat) (fv:List Value) (bf:Nat) (X:bK) (vl vi:Value),b∈im.zj->d<=12->cA im.zq im.zx b.zy b.code F i=some t->LT im.zq s.heap b.zy l->StT im B s->s.left<=f->StQ P w0 w be bw tx inp s bl lv l vo vb gs fv->FrS P w0 w im b bf d X vl vi bl->
  Calls prog 93 #[.pointer (some ⟨be,0,none⟩),.pointer (some ⟨bf,0,none⟩),.int .i64 i] w (ReV P w0 w be bw tx inp bl lv (bC im inp f b d i l s))
def Ct (l:List V):R->R
 | .bad e o=> .bad e o
 | .ok r _ s=> .ok r l s
theorem vS {b:Bod} (h:2<=b.zy.length) (u v:V):((b.zy.map du).set 0 u).set 1 v=aO b [u,v]:=by
 match hb:b.zy,h with
 |x::y::t,_=>simp[aO,hb]
theorem FV {w0:World} {tx:Nat} {im:Img} {bs:List bK} (hW:iQ im) (hB:jp w0 0 im.zx bs im.zj) (m c:Nat) (hc:c<im.zq.length):gM (im.zq.map toX) bs m (im.zq.map toX).length (UInt8.ofNat (65+c))=cO im.zq im.zj m 5 c:=by
 have:=hW.nc;rw[bZ,pm hB.heads,jK hW.cls hW.nc (λb hb=>yM (hW.bod b hb) hW.nc) m im.zq.length 5 c hc hc (by omega)]
section
variable {P:Nat->Prop} {w0 w:World} {be bw tx bl:Nat} {inp:ByteArray} {s:Ev} {lv vo vb:Value} {l:List V} {gs:List Nat} {fv:List Value} {im:Img} {b:Bod} {bf d:Nat} {Xb:bK} {vl vi:Value}
theorem sE (h:StQ P w0 w be bw tx inp s bl lv l vo vb gs fv) (hF:FrS P w0 w im b bf d Xb vl vi bl) (u v:V) (pl n pn pc:Nat) (c:UInt8) (pa:Option Addr) (e:Nat) (he:(cr e !=0)=true)
  (HC': ∀X,B_ w X->Calls prog 193 #[.pointer (some ⟨bw,0,none⟩),aI u,.int .i64 n,.int .i64 d] X λen w'=>B_ X w'/\en= .returned (.tuple #[.int .i64 (-1),.int .i64 (cr e)])):
  Calls prog 208 #[.pointer (some ⟨be,0,none⟩),.pointer (some ⟨bf,0,none⟩),.agg #[.int .i64 pl,.int .u8 99,.int .u8 c.toNat,.int .i64 n,.slice pa pn pc],aI u,aI v] w (ReV P w0 w be bw tx inp bl lv (.bad e s.out)):=by
 have f:=hid (doW (w:=w) (pl:=pl) (op:=99) (n:=n) (pn:=pn) (pc:=pc) (c:=c) (pa:=pa) (u:=u) (v:=v));rw[show((99:Nat):Int)=99 from rfl]at f;obtain⟨a0,_,_,_,_,_,_,x⟩:=hF.cells;have C:=h.ev.c1;have y:=h.ev.lt;have A:=hid HC';have B:=hid h;have t:=hid hF;clear h hF HC';unfold aI at*
 go_in
 go_wp2_with fail;revert f;generalize ((((w.alloc (.cells #[.int .i64 pl,.int .u8 99,.int .u8 c.toNat,.int .i64 n,.slice pa pn pc] 219)).alloc (.cells #[.int .i32 (xN u),.int .i64 (xO u)] 168)).alloc (.cells #[.int .i32 (xN v),.int .i64 (xO v)] 168)).alloc (.cells #[.int .i32 0,.int .i64 0] 168))=W;intro f;have i:=f.out;obtain⟨H,I,J,D,L⟩:=i.item;obtain⟨v0,v1,v2,Q⟩:=i.vals;have G:=i.sz;have p:=i.nb;have e1W:=p.but.kc C y;have a0W:=p.but.kc a0 x;have z:dE W (w.heap.size+1+1+1):=⟨0,0,i.b3⟩;clear f C a0 H I J L v2 Q;have g:B_ W W.drew:=aD _ _;have m0:w.heap.size<W.heap.size:=by omega
 have E:w.heap.size+1<W.heap.size:=by omega
 have M:be<W.heap.size:=by omega
 have O:bf<W.heap.size:=by omega
 refine aF (B_ W) 11 ?_
 iterate 11 (refine eT (v:=?_) rfl g ?_ ?_;rotate_left;(focus (intro wS h;have Y:=(h.kc e1W M);have Z:=(h.kc a0W O);have q2:=(h.kc D m0);have q3:=(h.kc v0 E);have q4:=(h.kc v1 E);clear h;go_simp;try rfl));dsimp only[Act.put];try simp only[bW])
 refine au rfl ?_;intro KS hKS;go_simp;refine(A.out _ (p.but.trans g)).mono ?_;rintro en w1 ⟨j,rfl⟩;refine hKS.out _ _ nofun ?_;clear hKS KS A
 iterate 5 (refine jf (v:=?_) rfl ?_ ?_;rotate_left;(focus (intro wS;go_simp;try rfl));dsimp only[Act.put];try simp only[bW])
 refine aK rfl ?_;have k:=g.trans j;clear g j D v0 v1 e1W;have q:=hid (λa b=>B.out.fin0 p k (r:=w.heap.size+1+1+1) (by omega) z a b);have m:=(q.out 0 0).1;obtain⟨S,T,r0,r1,z0,z1,F⟩:=m.parts;clear B t i a0W;go_wp2_with fail;exact dI results208 rfl rfl rfl (m.put _ _) ⟨(q.out _ _).2.1,_,_,_,_,rfl,s,l,rfl,(q.out _ _).2.2⟩
theorem Cu {B f q:Nat} {t:UInt8} {F:Nat} (IH:jQ im inp w0 be bw tx f) (hT:eS w0 tx im) (hs:StT im B s) (hsf:s.left<=f) (hd:d<12) (cb:Bod) (hbm:cb∈im.zj) (hq:im.zj[q]?=some cb) (hnb:im.zj.length<=7) (hlo:cb.zy.length<=5) (hl2:2<=cb.zy.length) (hty:cA im.zq im.zx cb.zy cb.code F 0=some t) (u v:V) (hLT:LT im.zq s.heap cb.zy (aO cb [u,v])) (h:StQ P w0 w be bw tx inp s bl lv l vo vb gs fv) (hF:FrS P w0 w im b bf d Xb vl vi bl) (pl n pn pc:Nat) (c:UInt8) (pa:Option Addr)
  (HC': ∀X,B_ w X->Calls prog 193 #[.pointer (some ⟨bw,0,none⟩),aI u,.int .i64 n,.int .i64 d] X λen w'=>B_ X w'/\en= .returned (.tuple #[.int .i64 q,.int .i64 0])):
  Calls prog 208 #[.pointer (some ⟨be,0,none⟩),.pointer (some ⟨bf,0,none⟩),.agg #[.int .i64 pl,.int .u8 99,.int .u8 c.toNat,.int .i64 n,.slice pa pn pc],aI u,aI v] w (ReV P w0 w be bw tx inp bl lv (Ct l (bC im inp f cb (d+1) 0 (aO cb [u,v]) s))):=by
 have y:=hid (doW (w:=w) (pl:=pl) (op:=99) (n:=n) (pn:=pn) (pc:=pc) (c:=c) (pa:=pa) (u:=u) (v:=v));rw[show((99:Nat):Int)=99 from rfl]at y;obtain⟨a0,_,_,_,_,_,_,e0⟩:=hF.cells;have e1:=h.ev.c1;have e2:=h.ev.lt;have HC:=hid HC';have HH:=hid h;have a6:=hid hF;clear h hF HC';unfold aI at*
 go_in
 go_wp2_with fail;revert y;generalize ((((w.alloc (.cells #[.int .i64 pl,.int .u8 99,.int .u8 c.toNat,.int .i64 n,.slice pa pn pc] 219)).alloc (.cells #[.int .i32 (xN u),.int .i64 (xO u)] 168)).alloc (.cells #[.int .i32 (xN v),.int .i64 (xO v)] 168)).alloc (.cells #[.int .i32 0,.int .i64 0] 168))=W;intro y;have G:=y.out;obtain⟨i0,i1,i2,i3,i4⟩:=G.item;obtain⟨v0,v1,v2,v3⟩:=G.vals;have f1:=G.sz;have hN:=G.nb;have e1W:=hN.but.kc e1 e2;have a0W:=hN.but.kc a0 e0;have e3:dE W (w.heap.size+1+1+1):=⟨0,0,G.b3⟩;clear y e1 a0 i0 i1 i2 i4 v2 v3;have g:B_ W W.drew:=aD _ _;have m0:w.heap.size<W.heap.size:=by omega
 have m1:w.heap.size+1<W.heap.size:=by omega
 have m2:be<W.heap.size:=by omega
 have m3:bf<W.heap.size:=by omega
 refine aF (B_ W) 11 ?_
 iterate 11 (refine eT (v:=?_) rfl g ?_ ?_;rotate_left;(focus (intro wS h;have q0:=(h.kc e1W m2);have q1:=(h.kc a0W m3);have q2:=(h.kc i3 m0);have q3:=(h.kc v0 m1);have q4:=(h.kc v1 m1);clear h;go_simp;try rfl));dsimp only[Act.put];try simp only[bW])
 refine au rfl ?_;intro KS hKS;go_simp;refine(HC.out _ (hN.but.trans g)).mono ?_;rintro en w1 ⟨a7,rfl⟩;refine hKS.out _ _ nofun ?_;clear hKS KS HC
 iterate 5 (refine jf (v:=?_) rfl ?_ ?_;rotate_left;(focus (intro wS;go_simp;try rfl));dsimp only[Act.put];try simp only[bW])
 refine aK rfl ?_;have a:=g.trans a7;clear g a7 i3 v0 v1 e1W;have p:=(HH.out.grown hN).new a;have a4:=(a6.out.grown hN).but (a.mono (λ_ _ h=>h.elim));have O:=hid (tY p im hT q (d+1) cb hq hlo (by omega));have a0W1:=a.kc a0W m3;have e5:bf<w1.heap.size:=aP m3 a.size;have e9:(d:Int)<12:=by omega
 rw[show((d+1:Nat):Int)=(d:Int)+1 from by simp]at O;clear a0W;go_wp2_with fail;refine O.out.mono ?_;rintro en w2 ⟨D,bl2,e4,X2,vl2,vi2,rfl,m,T,b4,b6,L,I,a5⟩;have h2:=p.enter (l':=cb.zy.map du) m b6 (by simpa using L) I;have Z:=h2.add T;obtain⟨P2,E⟩: ∃P2:Nat->Prop,(λj=>(PQ P w W j\/rH bl lv j)\/j=D)=P2:=⟨_,rfl⟩;rw[E]at Z;have p1: ∀k,PQ P w W k\/rH bl lv k->P2 k:=λk hk=>by rw[<-E];exact Or.inl hk
 have p2:P2 D:=by rw[<-E];exact Or.inr rfl
 have g1:=((a.trans m).block _ m1 (λh=>h)).trans G.b1;have g2:=((a.trans m).block _ (by omega) (λh=>h)).trans G.b2;have f2:P2 (w.heap.size+1):=p1 _ (Or.inl (Or.inr ⟨by omega,m1⟩));have e6:P2 (w.heap.size+1+1):=p1 _ (Or.inl (Or.inr ⟨by omega,by omega⟩));have Y:FrS P2 w0 w2 im cb D (d+1) X2 vl2 vi2 bl2:=⟨T,p2,b4⟩;have HQ:=hid (And.intro p (And.intro m a));clear h2 p a4 O a0W1 e5 E T b4 b6 L I a5 a6 G hq m a;have Q:=hid (λX (hX:B_ w2 X)=>tX (Z.new hX) 0 u (by simp;omega));obtain⟨_,_,_,_,_,_,y6,y7⟩:=Y.cells;obtain⟨x0,x1,x2⟩:w2.cell? ⟨w.heap.size+1,0,none⟩=some (.int .i32 (xN u))/\w2.cell? ⟨w.heap.size+1,1,none⟩=some (.int .i64 (xO u))/\w.heap.size+1<w2.heap.size:=⟨by rw[bU w2 _ 0 _ _ (0,0) g1];rfl,by rw[bU w2 _ 1 _ _ (0,0) g1];rfl,ae g1⟩
 unfold aI at Q;clear Z;go_wp2_with fail;have g:B_ w2 w2.drew:=aD _ _;refine aF (B_ w2) 5 ?_
 iterate 5 (refine eT (v:=?_) rfl g ?_ ?_;rotate_left;(focus (intro wS h;have q0:=(h.kc y6 y7);have q1:=(h.kc x0 x2);have q2:=(h.kc x1 x2);clear h;go_simp;try rfl));dsimp only[Act.put];try simp only[bW])
 refine au rfl ?_;intro KS hKS;go_simp;refine(Q.out _ g).mono ?_;rintro en C ⟨rfl,a8,Z⟩;refine hKS.out _ _ nofun ?_;clear hKS KS Q;refine aK rfl ?_;have x:But (FrQ P2 w0) w2 C:=(g.mono (λ_ _ h=>h.elim)).trans a8;have A:=Y.but x;have g3:=(x.block _ (ae g2) (λh=>h.2 e6)).trans g2;clear g a8 g1 g2 x0 x1 x2 y6 y7 Y;have Q:=hid (λX (hX:B_ C X)=>tX (Z.new hX) 1 v (by simp;omega));obtain⟨_,_,_,_,_,_,y6,y7⟩:=A.cells;obtain⟨x0,x1,x2⟩:C.cell? ⟨w.heap.size+1+1,0,none⟩=some (.int .i32 (xN v))/\C.cell? ⟨w.heap.size+1+1,1,none⟩=some (.int .i64 (xO v))/\w.heap.size+1+1<C.heap.size:=⟨by rw[bU C _ 0 _ _ (0,0) g3];rfl,by rw[bU C _ 1 _ _ (0,0) g3];rfl,ae g3⟩
 unfold aI at Q;clear Z;go_wp2_with fail;have g:B_ C C.drew:=aD _ _;refine aF (B_ C) 5 ?_
 iterate 5 (refine eT (v:=?_) rfl g ?_ ?_;rotate_left;(focus (intro wS h;have q0:=(h.kc y6 y7);have q1:=(h.kc x0 x2);have q2:=(h.kc x1 x2);clear h;go_simp;try rfl));dsimp only[Act.put];try simp only[bW])
 refine au rfl ?_;intro KS hKS;go_simp;refine(Q.out _ g).mono ?_;rintro en w4 ⟨rfl,b0,h4⟩;refine hKS.out _ _ nofun ?_;clear hKS KS Q;refine aK rfl ?_;have z:But (FrQ P2 w0) C w4:=(g.mono (λ_ _ h=>h.elim)).trans b0;have H:=A.but z;rw[vS hl2]at h4;have HC:=hid (IH cb (d+1) 0 _ s t F B P2 w4 bl2 e4 vo vb gs fv D X2 vl2 vi2 hbm (by omega) hty hLT hs hsf h4 H);clear g b0 g3 x0 x1 x2 y6 y7 A H h4;go_wp2_with fail;refine HC.out.mono ?_;intro en w5 i
 have M:ReV (PQ P w W) w0 W be bw tx inp bl lv (Ct l (bC im inp f cb (d+1) 0 (aO cb [u,v]) s)) en w5:=by
  obtain⟨p,m,a⟩:=HQ.out;obtain⟨c6,e8,e7,b9,b8,i⟩:=i;have S:But (FrQ P2 w0) w1 w5:=(((m.mono (λ_ _ h=>h.elim)).trans x).trans z).trans c6;have d6:But (FrQ (PQ P w W) w0) W w5:=(a.mono (λ_ _ h=>h.elim)).trans (S.mono (λk _ hf=>⟨hf.1,λhp=>hf.2 (p1 k (Or.inl hp))⟩));refine⟨d6,e8,e7,b9,b8,?_⟩
  cases hn:bC im inp f cb (d+1) 0 (aO cb [u,v]) s with
  |ok r l5 s5=>
   rw[hn]at i;exact⟨i.1,p.leave i.2 S p1⟩
  |bad e o=>
   rw[hn]at i;obtain⟨a1,s5,l5,a2,a3⟩:=i;exact⟨a1,s5,l,a2,p.leave a3 S p1⟩
 obtain⟨K,N,e,rfl,J⟩:=ReV.pass hN HH.out.old.size M;obtain⟨b7,b5⟩:=J (w.heap.size+1+1+1) (by omega) e3;obtain⟨K9,N9,r0,r1,z0,z1,f0⟩:=b7.parts;have HF:=hid b5;clear b5 J i M HC HQ x z IH hT hs hLT hty;go_wp2_with fail;exact dI results208 rfl rfl rfl (b7.put _ _) HF.out
end
end
section
open Go Go.RowKit Sp
def PL (P:Nat->Prop) (be bl:Nat) (lv:Value) (k:Nat):Prop:=P k\/k=be\/k=bl\/lv.ownBlock=some k
def Eh (l:List V) (s:Ev):R->Prop
 | .ok _ l' s'=>l'=l/\s'.left=s.left
 | .bad _ _=>True
section
variable {P:Nat->Prop} {w0 w w':World} {be bw tx bl:Nat} {inp:ByteArray} {s s':Ev} {lv vo vb:Value} {l:List V} {gs:List Nat} {fv:List Value}
theorem StQ.wq (h:StQ P w0 w be bw tx inp s bl lv l vo vb gs fv):WdQ (PL P be bl lv) w0 w bw tx inp s vo vb gs fv 0 (λ_=>0):=by
 refine⟨h.old,h.wd,h.out,h.ob,h.lg,h.lf,h.obs,h.nd,λk hk=> ?_,λk hk=> ?_,h.sf,eH _,λk=>⟨eH _,eH _⟩⟩
 .have b:xS be bw bl vo vb lv gs fv k:=by
   obtain e|e|e|e|e:=hk
   .exact Or.inr (Or.inl e)
   .exact Or.inr (Or.inr (Or.inr (Or.inl e)))
   .exact Or.inr (Or.inr (Or.inr (Or.inr (Or.inl e))))
   .exact Or.inr (Or.inr (Or.inr (Or.inr (Or.inr (Or.inr (Or.inl e))))))
   .exact Or.inr (Or.inr (Or.inr (Or.inr (Or.inr (Or.inr (Or.inr e))))))
  refine⟨(h.own k b).1,λhp=> ?_⟩
  have no: ∀{c:Array Value} {t:TypeId},w.heap[k]?=some (.cells c t)->t≠211->t≠5->t≠315->t≠318->t≠168->False:=λhc t1 t2 t3 t4 t5=>by
   obtain e|e|e|e| ⟨v,hv,e⟩:=hk
   .exact bL hc h.wd (Ne.symm t1) e
   .exact aE h.out hc (Ne.symm t2) e
   .exact aE h.ob hc (Ne.symm t3) e
   .obtain⟨_,_,a⟩:=h.mg e;exact bL a hc t4 rfl
   .obtain⟨_,_,a⟩:=h.mv hv;exact aE a hc (Ne.symm t5) e
  obtain hp|rfl|rfl|hp:=hp
  .exact(h.own k b).2 hp
  .exact no h.ev (by decide) (by decide) (by decide) (by decide) (by decide)
  .exact no h.lb (by decide) (by decide) (by decide) (by decide) (by decide)
  .obtain e|e|e|e| ⟨v,hv,e⟩:=hk
   .exact aE h.lo h.wd (by decide) (e▸hp)
   .exact lV h.lo h.out (by decide) hp e
   .exact lV h.lo h.ob (by decide) hp e
   .obtain⟨_,_,a⟩:=h.mg e;exact aE h.lo a (by decide) hp
   .exact h.sl v hv k e hp
 .obtain hp|rfl|rfl|hp:=hk
  .exact h.pl k hp
  .exact⟨ae h.ev,λc fz e=>bL h.ev e (by decide) rfl⟩
  .exact⟨ae h.lb,λc fz e=>bL h.lb e (by decide) rfl⟩
  .exact⟨bB h.lo k hp,λc fz e=>aE h.lo e (by decide) hp⟩
theorem StQ.ofW {vo' vb':Value} {gs':List Nat} {fv':List Value} {sn:Nat->Int} (h:StQ P w0 w be bw tx inp s bl lv l vo vb gs fv) (hB:But (FrQ (PL P be bl lv) w0) w w') (hw:WdQ (PL P be bl lv) w0 w' bw tx inp s' vo' vb' gs' fv' 0 sn) (hs:s'.left=s.left):StQ P w0 w' be bw tx inp s' bl lv l vo' vb' gs' fv':=by
 have o:=h.own;refine⟨hw.old,hs▸h.ev.but hB (λe=>e.2 (Or.inr (Or.inl rfl))),hw.wd,hw.out,hw.ob,hw.lg,hw.lf,λk o g v a b c=> ?_,hw.nd,(hB.block bl (ae h.lb) (λe=>e.2 (Or.inr (Or.inr (Or.inl rfl))))).trans h.lb,ah h.lo hB (λg hg e=>e.2 (Or.inr (Or.inr (Or.inr hg)))),λk hk=> ?_,λk hk=>hw.pl k (Or.inl hk),λv d g hg e=>(hw.k8 d hg).2 (Or.inr (Or.inr (Or.inr e))),hw.sf⟩
 .have f:=hw.obs k o g v a b c;have j:=hw.se.2 k;have i:sn k=0:=by omega
  rw[i]at f;exact f
 .obtain e|e|e|e|e|e|e|e:=hk
  .exact o k (Or.inl e)
  .exact⟨(hw.own k (Or.inl e)).1,λhp=>(hw.own k (Or.inl e)).2 (Or.inl hp)⟩
  .exact o k (Or.inr (Or.inr (Or.inl e)))
  .exact⟨(hw.k4 e).1,λhp=>(hw.k4 e).2 (Or.inl hp)⟩
  .exact⟨(hw.k5 e).1,λhp=>(hw.k5 e).2 (Or.inl hp)⟩
  .exact o k (Or.inr (Or.inr (Or.inr (Or.inr (Or.inr (Or.inl e))))))
  .exact⟨(hw.k7 e).1,λhp=>(hw.k7 e).2 (Or.inl hp)⟩
  .obtain⟨v,d,e⟩:=e;exact⟨(hw.k8 d e).1,λhp=>(hw.k8 d e).2 (Or.inl hp)⟩
theorem oW {f:Nat} {args:Array Value} {r:R} (h:StQ P w0 w be bw tx inp s bl lv l vo vb gs fv) (hr:Eh l s r) (H:Calls prog f args w (ReW (PL P be bl lv) w0 w bw tx inp 0 r)):Calls prog f args w (ReV P w0 w be bw tx inp bl lv r):=by
 refine H.mono ?_;rintro en w' ⟨a,vo',vb',gs',fv',sn,hm⟩;refine⟨a.mono (λ_ _ e=>⟨e.1,λhp=>e.2 (Or.inl hp)⟩),vo',vb',gs',fv',?_⟩
 cases r with
 |ok u l' s'=>
  obtain⟨rfl,c⟩:=hr;exact⟨hm.1,h.ofW a hm.2 c⟩
 |bad e o=>
  obtain⟨b,s',d,g⟩:=hm;exact⟨b,{s' with left:=s.left},l,d,h.ofW a (g.left _) rfl⟩
end
theorem vU {x:Ins} (h:aY x.op=true):(bQ x).op.toNat=107/\(bQ x).num=x.b:=by simp[bQ,h]
theorem gU {x:Ins} (h:58<=x.op.toNat\/x.op.toNat<48):(bQ x).op.toNat=x.op.toNat/\(bQ x).num=x.b/\(x.op.toNat=110\/x.op.toNat=120\/x.op.toNat=103\/x.op.toNat=112\/x.op.toNat=99->(bQ x).cls=UInt8.ofNat (65+x.a)):=by
 have c:aY x.op=false:=by simp[aY];omega
 simp only[bQ,c,dx,if_false,aJ];exact⟨trivial,trivial,λh=>by rw[if_pos h]⟩
section
variable {P:Nat->Prop} {w0 w:World} {be bw tx bl:Nat} {inp:ByteArray} {s:Ev} {lv vo vb:Value} {l:List V} {gs:List Nat} {fv:List Value} {im:Img} {b:Bod} {bf d:Nat} {Xb:bK} {vl vi:Value}
abbrev itN (x:Ins) (pa:Option Addr) (pl pn pc:Nat):Value:= .agg #[.int .i64 pl,.int .u8 (bQ x).op.toNat,.int .u8 (bQ x).cls.toNat,.int .i64 (bQ x).num,.slice pa pn pc]
theorem t7 (op:Nat) (a b:Int) (l:List V) (s:Ev):Eh l s (dO op a b l s):=by
 unfold dO
 repeat' split
 all_goals first|exact⟨rfl,rfl⟩ |trivial
theorem Cv {B:Nat} (h:StQ P w0 w be bw tx inp s bl lv l vo vb gs fv) (hF:FrS P w0 w im b bf d Xb vl vi bl) (hT:eS w0 tx im) (hW:iQ im) (hs:StT im B s) (h40:inp.size<=40) (x:Ins) (hx:WfN im.zq im.zx.length l.length x) (hx0:ay x.op=0) (u v:V) (pl pn pc:Nat) (pa:Option Addr):
  Calls prog 156 #[.pointer (some ⟨be,0,none⟩),.pointer (some ⟨bf,0,none⟩),itN x pa pl pn pc,aI u,aI v] w (ReV P w0 w be bw tx inp bl lv (dX im inp x l s)):=by
 have g:=hW.nc
 have k:aY x.op=true\/x.op.toNat=114\/x.op.toNat=122\/x.op.toNat=108\/x.op.toNat=110:=by
  have c:=hx.op;simp[dm]at c;obtain c|c|c|c|c|c|c|c|c|c|c|c|c|c|c|c|c|c|c|c|c|c|c|c|c|c|c|c|c|c:=c<;>simp[ay,c,aY]at hx0⊢
 unfold itN;obtain c|c|c|c|c:=k
 .obtain⟨e,f⟩:=vU c;have n:48<=x.op.toNat/\x.op.toNat<=57:=by simpa[aY]using c
  rw[e,f,show dX im inp x l s= .ok (.i x.b) l s from by unfold dX;rw[if_neg (by omega),if_neg (by omega),if_neg (by omega),if_neg (by omega)]];exact eK h u v pl 107 x.b pn pc _ pa _ (by decide) (by decide) (by decide) (by decide) (λX hX=>oW (h.grown hX) ⟨rfl,rfl⟩ (Ea (h.grown hX).wq u v pl x.b pn pc _ pa hx.num))
 .obtain⟨e,f,_⟩:=gU (x:=x) (by omega);rw[e,f,c,show dX im inp x l s=_ from by unfold dX;rw[if_pos c]];exact eK h u v pl 114 x.b pn pc _ pa _ (by decide) (by decide) (by decide) (by decide) (λX hX=>oW (h.grown hX) ⟨rfl,rfl⟩ (Ec (h.grown hX).wq h40 u v pl x.b pn pc _ pa))
 .obtain⟨e,f,_⟩:=gU (x:=x) (by omega);rw[e,f,c,show dX im inp x l s=_ from by unfold dX;rw[if_neg (by omega),if_pos c]];exact eK h u v pl 122 x.b pn pc _ pa _ (by decide) (by decide) (by decide) (by decide) (λX hX=>oW (h.grown hX) ⟨rfl,rfl⟩ (Eb (h.grown hX).wq u v pl x.b pn pc _ pa))
 .obtain⟨e,f,_⟩:=gU (x:=x) (by omega);have hb:=hx.loc (Or.inl c);rw[e,f,c,show dX im inp x l s= .ok (l.getD x.b .z) l s from by unfold dX;rw[if_neg (by omega),if_neg (by omega),if_pos c]];exact FS h hF u v pl x.b pn pc _ pa _ (by simp[hb])
 .obtain⟨e,f,m⟩:=gU (x:=x) (by omega);have ha:=hx.cls (Or.inl c);rw[e,f,m (Or.inl c),c,show dX im inp x l s=_ from by unfold dX;rw[if_neg (by omega),if_neg (by omega),if_neg (by omega),if_pos c]]
  have j:(bF im.zq x.a).length<=100:=by
   have:=lN hW.cls g (UInt8.ofNat (65+x.a));rw[lZ g ha]at this;omega
  exact eK h u v pl 110 x.b pn pc _ pa _ (by decide) (by decide) (by decide) (by decide) (λX hX=>oW (h.grown hX) ⟨rfl,rfl⟩ (Ef (h.grown hX).wq (by have:=hs.cap;omega) (im.zq.map toX) (by simp;omega) hT.cls ⟨x.a,de im.zq x.a⟩ (bF im.zq x.a) u v pl x.b pn pc _ pa (fZ (by omega)) (lZ g ha) j rfl))
theorem DL {B:Nat} (h:StQ P w0 w be bw tx inp s bl lv l vo vb gs fv) (hF:FrS P w0 w im b bf d Xb vl vi bl) (hT:eS w0 tx im) (htab:fd w0) (hR:eE im) (hs:StT im B s) (x:Ins) (lo:L_) (hx:WfN im.zq im.zx.length lo.length x) (hll:LT im.zq s.heap lo l) (hx1:ay x.op=1) (ta tt:UInt8) (u v:V) (hu:VT im.zq s.heap ta u) (hnt:ba im.zq im.zx lo x [ta]=some tt) (pl pn pc:Nat) (pa:Option Addr):
  Calls prog 156 #[.pointer (some ⟨be,0,none⟩),.pointer (some ⟨bf,0,none⟩),itN x pa pl pn pc,aI u,aI v] w (ReV P w0 w be bw tx inp bl lv (eV im x u l s)):=by
 have n:=hR.wf;have c:=n.nc;have C:=hs.cap;have j:s.heap.length<=4000:=by omega
 have r:x.op.toNat=115\/x.op.toNat=103\/x.op.toNat=120\/x.op.toNat=119:=by
  unfold ay at hx1
  split at hx1
  .omega
  .split at hx1
   .omega
   .split at hx1
    .rename_i h3;simpa using h3
    .omega
 obtain⟨f,g,E⟩:=gU (x:=x) (by omega);unfold itN;obtain h1|h1|h1|h1:=r
 .rw[f,g,h1,show eV im x u l s= .ok (.i 0) (l.set x.b u) s from by unfold eV;rw[if_pos h1]];exact FT h hF u v pl x.b pn pc _ pa (by rw[hll.len];exact hx.loc (Or.inr h1))
 .have e:=hx.cls (by omega);have y:=hx.fld (by omega);simp[ba,cK,bE,Sp.arith,h1]at hnt;obtain⟨F,_⟩:=hnt;obtain⟨A,p⟩:=eX (a:=x.a) (by omega);have t:=hu.sub n.cls c hs.ht (t':=cE x.a) (nW (by simpa using F)) (by have:=cz.1 A;omega);obtain rfl| ⟨k,ob,rfl,hk,_,hun⟩:=t.ref (cF A)
  .rw[f,g,h1,show eV im x .z l s= .bad 6 s.out from by unfold eV;simp[h1]];exact eK h .z v pl 103 x.b pn pc _ pa _ (by decide) (by decide) (by decide) (by decide) (λX hX=>oW (h.grown hX) trivial (Cn (h.grown hX).wq j v pl x.b pn pc _ pa))
  .rw[p]at hun;obtain⟨g1,g2⟩:=nY hR hs e y hk hun;obtain⟨q,D⟩: ∃q,ob.fs[x.b]?=some q:=⟨_,aM g1⟩;rw[f,g,h1,show eV im x (.o k) l s= .ok q l s from by unfold eV;simp[h1,(Ev.at hk).2,D]];exact eK h (.o k) v pl 103 x.b pn pc _ pa _ (by decide) (by decide) (by decide) (by decide) (λX hX=>oW (h.grown hX) ⟨rfl,rfl⟩ (Co (h.grown hX).wq j hk q v pl x.b pn pc _ pa D))
 .have e:=hx.cls (by omega);simp[ba,cK,bE,Sp.arith,h1]at hnt;obtain rfl| ⟨k,ob,rfl,hk,_,hun⟩:=hu.ref hnt.1
  .rw[f,g,h1,show eV im x .z l s= .ok .z l s from by unfold eV;simp[h1]];exact eK h .z v pl 120 x.b pn pc _ pa _ (by decide) (by decide) (by decide) (by decide) (λX hX=>oW (h.grown hX) ⟨rfl,rfl⟩ (Cr (h.grown hX).wq j v pl x.b pn pc _ pa))
  .have hcl:=hs.ht.cls k ob hk;rw[f,g,E (by omega),h1,show eV im x (.o k) l s=(if dT (im.zq.map toX) (UInt8.ofNat (65+x.a)) (im.zq.map toX).length (UInt8.ofNat (65+ob.cls))=true then .ok (.o k) l s else .bad 8 s.out)from by rw[sD n.cls c e hcl];unfold eV;simp[h1,(Ev.at hk).1]];exact eK h (.o k) v pl 120 x.b pn pc _ pa _ (by decide) (by decide) (by decide) (by decide) (λX hX=>oW (h.grown hX) (by split<;>first|exact⟨rfl,rfl⟩ |trivial) (Cs (h.grown hX).wq j hk (im.zq.map toX) (by simp;omega) hT.cls _ (fZ (by omega)) v pl x.b pn pc _ pa))
 .simp[ba,cK,bE,Sp.arith,h1]at hnt;obtain⟨m,rfl,G,H⟩:=(hu.sub n.cls c hs.ht (t':=105) (nW (by simpa using hnt.1)) (by decide)).int (by decide);rw[f,g,h1,show eV im x (.i m) l s= .ok (.i 0) l (s.say m)from by unfold eV;simp[h1,V.N]];exact eK h (.i m) v pl 119 x.b pn pc _ pa _ (by decide) (by decide) (by decide) (by decide) (λX hX=>oW (h.grown hX) ⟨rfl,rfl⟩ (Ed (h.grown hX).wq htab m G H (by have:=hs.o;omega) v pl x.b pn pc _ pa))
theorem FW {u v:V} (hu:(∃n,u= .i n)->False) (hv:(∃n,v= .i n)->False):xO u=xO v↔u=v:=by
 cases u<;>cases v<;>simp[xO]at hu hv⊢
 all_goals omega
theorem AL {B f:Nat} (IH:jQ im inp w0 be bw tx f) (h:StQ P w0 w be bw tx inp s bl lv l vo vb gs fv) (hF:FrS P w0 w im b bf d Xb vl vi bl) (hT:eS w0 tx im) (hR:eE im) (hs:StT im B s) (hsf:s.left<=f) (hd:d<=12) (x:Ins) (hxa:x.a<im.zq.length) (hxb:x.b<im.zx.length) (hlk:0<=cO im.zq im.zj x.b 5 x.a) (u v:V) (hu:VT im.zq s.heap (cE x.a) u) (hv':VT im.zq s.heap (jv im.zx x.b) v) (pl pn pc:Nat) (c:UInt8) (pa:Option Addr):
  Calls prog 208 #[.pointer (some ⟨be,0,none⟩),.pointer (some ⟨bf,0,none⟩),.agg #[.int .i64 pl,.int .u8 99,.int .u8 c.toNat,.int .i64 x.b,.slice pa pn pc],aI u,aI v] w (ReV P w0 w be bw tx inp bl lv (qJ im inp f d x u v l s)):=by
 have n:=hR.wf;have L:=n.nc;have C:=n.nb;have F:=hs.cap;have E:s.heap.length<=4000:=by omega
 obtain⟨G,p⟩:=eX (a:=x.a) (by omega);obtain rfl| ⟨k,ob,rfl,hk,_,hun⟩:=hu.ref (cF G)
 .exact sE h hF .z v pl x.b pn pc c pa 6 (by decide) (λX hX=>sB (h.new hX).wq E x.b d)
 .rw[p]at hun;have hcl:=hs.ht.cls k ob hk;obtain⟨bs,y,g⟩:=hT.bod;have H:bs.length=im.zj.length:=g.1;have m:=λX (hX:B_ w X)=>sC (h.new hX).wq E hk (im.zq.map toX) bs (by simp;omega) (by omega) hT.cls y (UInt8.ofNat (65+ob.cls)) (fZ (by omega)) x.b d
  rw[FV (tx:=tx) n g x.b ob.cls hcl]at m
  by_cases h12:12<=d
  .rw[show qJ im inp f d x (.o k) v l s= .bad 10 s.out from by simp[qJ,h12]];simp only[h12,if_true]at m;exact sE h hF (.o k) v pl x.b pn pc c pa 10 (by decide) m
  .simp only[h12,if_false]at m;obtain⟨D,e,i,J,I,A,r⟩:=nZ hR hs hk hxa hxb hun hlk hv';rw[(Ev.at hk).1]at e D;obtain⟨q,M⟩: ∃q:Nat,cO im.zq im.zj x.b 5 ob.cls=q:=⟨_,(Int.toNat_of_nonneg D).symm⟩;rw[M]at m e;simp only[ny]at e;have j:=hR.ty _ i;unfold fa at j
   cases ht:cA im.zq im.zx (aZ im x k s).zy (aZ im x k s).code (aZ im x k s).code.length 0 with
   |none=>rw[ht]at j;cases j
   |some t=>
   rw[show qJ im inp f d x (.o k) v l s=Ct l (bC im inp f (aZ im x k s) (d+1) 0 (aO (aZ im x k s) [.o k,v]) s)from by
    simp only[qJ,h12,if_false]
    cases bC im inp f (aZ im x k s) (d+1) 0 (aO (aZ im x k s) [.o k,v]) s<;>rfl]
   exact Cu IH hT hs hsf (by omega) _ i e C (n.bod _ i).loc.1 A ht (.o k) v r h hF pl x.b pn pc c pa m
theorem DM {B f:Nat} (IH:jQ im inp w0 be bw tx f) (h:StQ P w0 w be bw tx inp s bl lv l vo vb gs fv) (hF:FrS P w0 w im b bf d Xb vl vi bl) (hT:eS w0 tx im) (hR:eE im) (hs:StT im B s) (hsf:s.left<=f) (hd:d<=12) (x:Ins) (lo:L_) (hx:WfN im.zq im.zx.length lo.length x) (hx2:ay x.op=2) (hx111:x.op.toNat≠111) (hlk:x.op.toNat=99->0<=cO im.zq im.zj x.b 5 x.a) (ta tc tt:UInt8) (u v:V) (hu:VT im.zq s.heap ta u) (hv':VT im.zq s.heap tc v) (hnt:ba im.zq im.zx lo x [ta,tc]=some tt) (pl pn pc:Nat) (pa:Option Addr):
  Calls prog 156 #[.pointer (some ⟨be,0,none⟩),.pointer (some ⟨bf,0,none⟩),itN x pa pl pn pc,aI u,aI v] w (ReV P w0 w be bw tx inp bl lv (eP im (λb' l'=>bC im inp f b' (d+1) 0 l' s) d x u v l s)):=by
 have m:=hR.wf;have c:=m.nc;have I:=hs.cap;have H:s.heap.length<=4000:=by omega
 have r:arith x.op.toNat=true\/x.op.toNat=101\/x.op.toNat=112\/x.op.toNat=99\/x.op.toNat=44:=by
  unfold ay at hx2
  split at hx2
  .omega
  .split at hx2
   .rename_i h3;simp[arith]at h3⊢;omega
   .split at hx2<;>omega
 have D:58<=x.op.toNat\/x.op.toNat<48:=by
  obtain h1|h1|h1|h1|h1:=r
  .simp[Sp.arith]at h1;omega
  .omega
  .omega
  .omega
  .omega
 obtain⟨O,Q,e3⟩:=gU (x:=x) D;unfold itN;rw[O,Q];obtain h1|h1|h1|h1|h1:=r
 .have E:x.op.toNat≠44/\x.op.toNat≠101/\x.op.toNat≠99/\x.op.toNat≠112/\x.op.toNat≠120/\x.op.toNat≠105/\x.op.toNat≠108/\x.op.toNat≠115/\(x.op.toNat=43\/x.op.toNat=45\/x.op.toNat=42\/x.op.toNat=60\/x.op.toNat=61\/x.op.toNat=47):=by
   simp[Sp.arith]at h1;omega
  obtain⟨G,J,L,S,T,Y,n8,n9,Z⟩:=E;rw[show eP im (λb' l'=>bC im inp f b' (d+1) 0 l' s) d x u v l s=dO x.op.toNat u.N v.N l s from by unfold eP;rw[if_neg G,if_neg J,if_neg L,if_neg S]]
  have q:dz im.zq [ta,tc] [105,105]=true:=by
   simp[ba,cK,h1,J,T,G,Y,hx111]at hnt;simpa using hnt.1
  obtain⟨y,C⟩:=nX q;obtain⟨a,rfl,a1,M⟩:=(hu.sub m.cls c hs.ht (t':=105) y (by decide)).int (by decide);obtain⟨b,rfl,b1,b2⟩:=(hv'.sub m.cls c hs.ht (t':=105) C (by decide)).int (by decide);exact eK h (.i a) (.i b) pl x.op.toNat x.b pn pc _ pa _ G n8 n9 L (λX hX=>oW (h.grown hX) (t7 _ _ _ _ _) (Eg (h.grown hX).wq x.op.toNat Z a b a1 M b1 b2 pl x.b pn pc _ pa))
 .rw[h1,show eP im (λb' l'=>bC im inp f b' (d+1) 0 l' s) d x u v l s= .ok (if u=v then .i 1 else .i 0) l s from by unfold eP;rw[if_neg (by omega),if_pos h1]];simp[ba,cK,bE,Sp.arith,h1]at hnt
  have hi: ∀{t:UInt8} {u:V},VT im.zq s.heap t u->isR t=true->(∃n,u= .i n)->False:=λhv hr ⟨n,hn⟩=>by
   subst hn;obtain h| ⟨_,_,h,_⟩:=hv.ref hr<;>cases h
  exact eK h u v pl 101 x.b pn pc _ pa _ (by decide) (by decide) (by decide) (by decide) (λX hX=>oW (h.grown hX) ⟨rfl,rfl⟩ (Ee (h.grown hX).wq u v (FW (hi hu hnt.1.1) (hi hv' hnt.1.2)) pl x.b pn pc _ pa))
 .have j:=hx.cls (by omega);have e:=hx.fld (by omega);simp[ba,cK,bE,Sp.arith,h1]at hnt;obtain⟨q,_⟩:=hnt;obtain⟨A,p⟩:=eX (a:=x.a) (by omega);obtain⟨y,C⟩:=nX (by simpa using q);have g:=hu.sub m.cls c hs.ht (t':=cE x.a) y (by have:=cz.1 A;omega);obtain rfl| ⟨k,ob,rfl,hk,_,hun⟩:=g.ref (cF A)
  .rw[h1,show eP im (λb' l'=>bC im inp f b' (d+1) 0 l' s) d x .z v l s= .bad 6 s.out from by unfold eP;simp[h1]];exact eK h .z v pl 112 x.b pn pc _ pa _ (by decide) (by decide) (by decide) (by decide) (λX hX=>oW (h.grown hX) trivial (Cp (h.grown hX).wq H v pl x.b pn pc _ pa))
  .rw[p]at hun;obtain⟨g1,g2⟩:=nY hR hs j e hk hun;rw[h1,show eP im (λb' l'=>bC im inp f b' (d+1) 0 l' s) d x (.o k) v l s= .ok (.i 0) l (s.put k x.b v)from by unfold eP;simp[h1]];exact eK h (.o k) v pl 112 x.b pn pc _ pa _ (by decide) (by decide) (by decide) (by decide) (λX hX=>oW (h.grown hX) ⟨rfl,rfl⟩ (Cq (h.grown hX).wq H hk v pl x.b pn pc _ pa g1))
 .have j:=hx.cls (by omega);have e:=hx.sig h1;simp[ba,cK,bE,Sp.arith,h1]at hnt;obtain⟨q,_⟩:=hnt;obtain⟨A,p⟩:=eX (a:=x.a) (by omega);obtain⟨y,C⟩:=nX (by simpa using q);have g:=hu.sub m.cls c hs.ht (t':=cE x.a) y (by have:=cz.1 A;omega);have F:=hv'.sub m.cls c hs.ht (t':=jv im.zx x.b) C (jL (BB hR e).1);rw[h1,show eP im (λb' l'=>bC im inp f b' (d+1) 0 l' s) d x u v l s=qJ im inp f d x u v l s from by unfold eP qJ;rw[if_neg (by omega),if_neg (by omega),if_pos h1];cases u<;>rfl];exact FU h u v pl x.b pn pc _ pa _ (λX hX=>AL IH (h.grown hX) (hF.grown hX) hT hR hs hsf hd x j e (hlk h1) u v g F pl pn pc _ pa)
 .rw[h1,show eP im (λb' l'=>bC im inp f b' (d+1) 0 l' s) d x u v l s= .ok v l s from by unfold eP;rw[if_pos h1]];exact AK h hF u v pl x.b pn pc _ pa
end
end
end Go.Proofs.YtpfkkmacakjmbaaGreatDoor
