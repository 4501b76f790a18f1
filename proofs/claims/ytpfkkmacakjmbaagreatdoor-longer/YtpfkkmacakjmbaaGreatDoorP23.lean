import Derived.Test.YtpfkkmacakjmbaaGreatDoorP22
set_option maxRecDepth 100000
set_option maxHeartbeats 6400000
set_option linter.unusedSimpArgs false
set_option linter.unusedVariables false
namespace Go.Proofs.YtpfkkmacakjmbaaGreatDoor
section
open Go Go.RowKit Sp
theorem et {a:Nat} (h:a<100):(UInt8.ofNat (65+a)).toNat=65+a:=by simp;omega
theorem jP {cs:List Cls} (hn:cs.length≤4) {a:Nat} (ha:a<cs.length):bI (cs.map toX) (UInt8.ofNat (65+a))=bj cs a:=by
 have h1:=et (a:=a) (by omega);have h2:aO cs.length (UInt8.ofNat (65+a))=true:=by simp[aO];omega
 unfold bI;rw[List.length_map,h2,if_pos rfl,h1,show 65+a-65=a from by omega];simp[bj,toX,Option.map_map,Function.comp_def]
theorem pQ {cs:List Cls} (hw:WfC cs) (hn:cs.length≤4) {a c:Nat} (ha:a<cs.length) (hc:c<cs.length):dc (cs.map toX) (UInt8.ofNat (65+a)) (cs.map toX).length (UInt8.ofNat (65+c))=bO cs 5 c a:=by
 have h1:=et (a:=a) (by omega);have h2:=et (a:=c) (by omega);have k1:kl (UInt8.ofNat (65+a))=a:=by simp[kl];omega
 have k2:kl (UInt8.ofNat (65+c))=c:=by simp[kl];omega
 rw[List.length_map,mo hw hn (by simp[aO];omega) (by simp[aO];omega) (by rw[k2];omega) (by omega),k1,k2]
end
section
open Go Go.RowKit Sp
attribute [local go_sem ↓] Go.wp_at_zero Go.wp_at_succ
structure FrS (P:Nat→Prop) (w0 w:World) (im:Img) (b:Bod) (bf d:Nat) (X:bz) (vl vi:Value) (bl:Nat):Prop where
 fr:FrB w bf d X vl vi bl
 pf:P bf
 bd:AF w0 im.sigs b X vl vi
theorem NB.drew {w X:World} (h:NB w X):NB w X.drew:=⟨h.but.trans (But.drew _ _),fun k a b=>h.nb k a b⟩
section
variable {P:Nat→Prop} {w0 w w1 X:World} {be bw tx bl:Nat} {inp:ByteArray} {s:Ev} {lv vo vb:Value} {l:List V} {gs:List Nat} {fv:List Value} {im:Img} {b:Bod} {bf d:Nat} {Xb:bz} {vl vi:Value}
theorem FrS.but (h:FrS P w0 w im b bf d Xb vl vi bl) (hB:But (FrQ P w0) w w1):FrS P w0 w1 im b bf d Xb vl vi bl:=⟨h.fr.but hB (fun hf=>hf.2 h.pf),h.pf,h.bd⟩
theorem FrS.grown (h:FrS P w0 w im b bf d Xb vl vi bl) (hN:NB w X):FrS (PQ P w X) w0 X im b bf d Xb vl vi bl:=⟨h.fr.but hN.but (fun h=>h),Or.inl h.pf,h.bd⟩
theorem FrS.cells (h:FrS P w0 w im b bf d Xb vl vi bl):w.cell? ⟨bf,0,none⟩=some (.int .i64 d)∧w.cell? ⟨bf,1,none⟩=some (.int .u8 Xb.cls.toNat)∧w.cell? ⟨bf,2,none⟩=some (.int .i64 Xb.meth)∧w.cell? ⟨bf,3,none⟩=some (.int .u8 Xb.ans.toNat)∧w.cell? ⟨bf,4,none⟩=some vl∧w.cell? ⟨bf,5,none⟩=some vi∧w.cell? ⟨bf,6,none⟩=some (.pointer (some ⟨bl,0,none⟩))∧bf<w.heap.size:=by
 have hf:=h.fr;unfold FrB at hf;exact⟨by rw[cell_of_row w bf 0 _ _ (0,0) hf];rfl,by rw[cell_of_row w bf 1 _ _ (0,0) hf];rfl,by rw[cell_of_row w bf 2 _ _ (0,0) hf];rfl,by rw[cell_of_row w bf 3 _ _ (0,0) hf];rfl,by rw[cell_of_row w bf 4 _ _ (0,0) hf];rfl,by rw[cell_of_row w bf 5 _ _ (0,0) hf];rfl,by rw[cell_of_row w bf 6 _ _ (0,0) hf];rfl,ae hf⟩
theorem ReV.pass {r:R} {en:Ending} (hN:NB w X) (h0:w0.heap.size≤w.heap.size) (h:ReV (PQ P w X) w0 X be bw tx inp bl lv r en w1):
  ∃K N e:Int,en= .returned (.tuple #[.agg #[.int .i32 K,.int .i64 N],.int .i64 e])∧ ∀r0,w.heap.size≤r0→cP X r0→cP w1 r0∧ReV P w0 w be bw tx inp bl lv r (.returned (.tuple #[.agg #[.int .i32 K,.int .i64 N],.int .i64 e])) ((w1.setCell ⟨r0,0,none⟩ (.int .i32 K)).setCell ⟨r0,1,none⟩ (.int .i64 N)):=by
 obtain⟨hB,vo,vb,gs,fv,h⟩:=h
 cases r with
 |ok u l s=>
  obtain⟨rfl,hs⟩:=h;refine⟨xN u,xO u,0,rfl,fun r0 hr hx=> ?_⟩;obtain⟨a,b,c⟩:=StQ.fin hN h0 hs hB hr hx (xN u) (xO u);exact⟨a,b,vo,vb,gs,fv,rfl,c⟩
 |bad e o=>
  obtain⟨rfl,s,l,ho,hs⟩:=h;refine⟨0,0,bK e,rfl,fun r0 hr hx=> ?_⟩;obtain⟨a,b,c⟩:=StQ.fin hN h0 hs hB hr hx 0 0;exact⟨a,b,vo,vb,gs,fv,rfl,s,l,ho,c⟩
structure DoW (w W:World) (pl op n pn pc:Nat) (c:UInt8) (pa:Option Addr) (u v:V):Prop where
 nb:NB w W
 b0:W.heap[w.heap.size]?=some (.cells #[.int .i64 pl,.int .u8 op,.int .u8 c.toNat,.int .i64 n,.slice pa pn pc] 219)
 b1:W.heap[w.heap.size+1]?=some (.cells #[.int .i32 (xN u),.int .i64 (xO u)] 168)
 b2:W.heap[w.heap.size+1+1]?=some (.cells #[.int .i32 (xN v),.int .i64 (xO v)] 168)
 b3:W.heap[w.heap.size+1+1+1]?=some (.cells #[.int .i32 0,.int .i64 0] 168)
 sz:W.heap.size=w.heap.size+1+1+1+1
theorem doW {pl op n pn pc:Nat} {c:UInt8} {pa:Option Addr} {u v:V}:DoW w ((((w.alloc (.cells #[.int .i64 pl,.int .u8 op,.int .u8 c.toNat,.int .i64 n,.slice pa pn pc] 219)).alloc (.cells #[.int .i32 (xN u),.int .i64 (xO u)] 168)).alloc (.cells #[.int .i32 (xN v),.int .i64 (xO v)] 168)).alloc (.cells #[.int .i32 0,.int .i64 0] 168)) pl op n pn pc c pa u v:=by
 refine⟨dX,?_,?_,?_,aq (by simp) _,by simp⟩
 ·exact((((But.alloc (fun _=>False) _ _).trans (But.alloc _ _ _)).trans (But.alloc _ _ _)).block _ (by simp) (fun h=>h)).trans (heap_alloc_new w _)
 ·exact(((But.alloc (fun _=>False) _ _).trans (But.alloc _ _ _)).block _ (by simp) (fun h=>h)).trans (aq (by simp) _)
 ·exact((But.alloc (fun _=>False) _ _).block _ (by simp) (fun h=>h)).trans (aq (by simp) _)
section
variable {W:World} {pl op n pn pc:Nat} {c:UInt8} {pa:Option Addr} {u v:V}
theorem DoW.item (h:DoW w W pl op n pn pc c pa u v):W.cell? ⟨w.heap.size,0,none⟩=some (.int .i64 pl)∧W.cell? ⟨w.heap.size,1,none⟩=some (.int .u8 op)∧W.cell? ⟨w.heap.size,2,none⟩=some (.int .u8 c.toNat)∧W.cell? ⟨w.heap.size,3,none⟩=some (.int .i64 n)∧W.cell? ⟨w.heap.size,4,none⟩=some (.slice pa pn pc):=
 ⟨by rw[cell_of_row W _ 0 _ _ (0,0) h.b0];rfl,by rw[cell_of_row W _ 1 _ _ (0,0) h.b0];rfl,by rw[cell_of_row W _ 2 _ _ (0,0) h.b0];rfl,by rw[cell_of_row W _ 3 _ _ (0,0) h.b0];rfl,by rw[cell_of_row W _ 4 _ _ (0,0) h.b0];rfl⟩
theorem DoW.vals (h:DoW w W pl op n pn pc c pa u v):W.cell? ⟨w.heap.size+1,0,none⟩=some (.int .i32 (xN u))∧W.cell? ⟨w.heap.size+1,1,none⟩=some (.int .i64 (xO u))∧W.cell? ⟨w.heap.size+1+1,0,none⟩=some (.int .i32 (xN v))∧W.cell? ⟨w.heap.size+1+1,1,none⟩=some (.int .i64 (xO v)):=
 ⟨by rw[cell_of_row W _ 0 _ _ (0,0) h.b1];rfl,by rw[cell_of_row W _ 1 _ _ (0,0) h.b1];rfl,by rw[cell_of_row W _ 0 _ _ (0,0) h.b2];rfl,by rw[cell_of_row W _ 1 _ _ (0,0) h.b2];rfl⟩
end
theorem dx (h:StQ P w0 w be bw tx inp s bl lv l vo vb gs fv) (u v:V) (pl op n pn pc:Nat) (c:UInt8) (pa:Option Addr) (r:R) (n1:op≠44) (n2:op≠108) (n3:op≠115) (n4:op≠99)
  (HD: ∀X,NB w X→Calls Tryz.prog 197 #[.pointer (some ⟨bw,0,none⟩),.agg #[.int .i64 pl,.int .u8 op,.int .u8 c.toNat,.int .i64 n,.slice pa pn pc],aG u,aG v] X (ReV (PQ P w X) w0 X be bw tx inp bl lv r)):
  Calls Tryz.prog 156 #[.pointer (some ⟨be,0,none⟩),.pointer (some ⟨bf,0,none⟩),.agg #[.int .i64 pl,.int .u8 op,.int .u8 c.toNat,.int .i64 n,.slice pa pn pc],aG u,aG v] w (ReV P w0 w be bw tx inp bl lv r):=by
 have HC:=hid HD;have h0:=h.old.size;have e1:=h.ev.c1;have a7:=h.ev.lt;have t1:((op:Int)==44)=false:=tsf (k:=44) n1;have t2:((op:Int)==108)=false:=tsf (k:=108) n2;have t3:((op:Int)==115)=false:=tsf (k:=115) n3;have t4:((op:Int)==99)=false:=tsf (k:=99) n4;have a1:=hid (doW (w:=w) (pl:=pl) (op:=op) (n:=n) (pn:=pn) (pc:=pc) (c:=c) (pa:=pa) (u:=u) (v:=v));clear HD n1 n2 n3 n4;unfold aG at*
 go_in
 go_wp2_with fail;revert a1;generalize ((((w.alloc (.cells #[.int .i64 pl,.int .u8 op,.int .u8 c.toNat,.int .i64 n,.slice pa pn pc] 219)).alloc (.cells #[.int .i32 (xN u),.int .i64 (xO u)] 168)).alloc (.cells #[.int .i32 (xN v),.int .i64 (xO v)] 168)).alloc (.cells #[.int .i32 0,.int .i64 0] 168))=W;intro a1;have hD:=a1.out;obtain⟨i0,i1,i2,i3,i4⟩:=hD.item;obtain⟨v0,v1,v2,v3⟩:=hD.vals;have b1:=hD.sz;have hN:=hD.nb;have e1W:=hN.but.kc e1 a7;have a8:cP W (w.heap.size+1+1+1):=⟨0,0,hD.b3⟩;have a6:=h.k1;clear a1 hD h e1;have a2:But (fun _=>False) W W.drew:=But.drew _ _;have m0:w.heap.size<W.heap.size:=by omega
 have m1:w.heap.size+1<W.heap.size:=by omega
 have m2:w.heap.size+1+1<W.heap.size:=by omega
 have m3:be<W.heap.size:=by omega
 refine aD (But (fun _=>False) W) 7 (by kernel_rfl) ?_
 iterate 7 (refine dB (v:=?_) rfl (by kernel_rfl) (fun _ _ _ h=>h) rfl a2 ?_ ?_;rotate_left;(focus (intro wS h;have q0:=(h.kc e1W m3);have q1:=(h.kc i0 m0);have q2:=(h.kc i1 m0);have q3:=(h.kc i2 m0);have q4:=(h.kc i3 m0);have q5:=(h.kc i4 m0);have q6:=(h.kc v0 m1);have q7:=(h.kc v1 m1);have q8:=(h.kc v2 m2);have q9:=(h.kc v3 m2);clear h;go_simp;try rfl));dsimp only[Act.put];try simp only[aL])
 refine ah rfl (by kernel_rfl) ?_;intro KS hKS;go_simp;refine(HC.out _ (hN.drew)).mono ?_;intro en w1 a5;obtain⟨K,N,e,rfl,a0⟩:=ReV.pass hN.drew h0 a5;refine hKS.out _ _ nofun ?_;clear hKS KS
 iterate 2 (refine fU (v:=?_) rfl (by kernel_rfl) (fun _ _ _ h=>h) rfl ?_ ?_;rotate_left;(focus (intro wS;go_simp;try rfl));dsimp only[Act.put];try simp only[aL])
 obtain⟨a4,a3⟩:=a0 (w.heap.size+1+1+1) (by omega) (a8.but a2 (fun h=>h));obtain⟨K9,N9,r0,r1,z0,z1,b0⟩:=a4.parts;have HF:=hid a3;clear a3 a0 a5 HC i0 i1 i2 i3 i4 v0 v1 v2 v3 e1W a2;refine jX rfl (by kernel_rfl) ?_;go_wp2_with fail;exact cU Tryz.results156 rfl rfl rfl (a4.put _ _) HF.out
theorem xC (h:StQ P w0 w be bw tx inp s bl lv l vo vb gs fv) (hF:FrS P w0 w im b bf d Xb vl vi bl) (u v:V) (pl n pn pc:Nat) (c:UInt8) (pa:Option Addr):
  Calls Tryz.prog 156 #[.pointer (some ⟨be,0,none⟩),.pointer (some ⟨bf,0,none⟩),.agg #[.int .i64 pl,.int .u8 44,.int .u8 c.toNat,.int .i64 n,.slice pa pn pc],aG u,aG v] w (ReV P w0 w be bw tx inp bl lv (.ok v l s)):=by
 have HH:=hid h;clear h hF;unfold aG at*
 go_in
 go_wp2_with fail;exact cU Tryz.results156 rfl rfl rfl (aq (by simp) _) ⟨dX.but.mono (fun _ _ h=>h.elim),vo,vb,gs,fv,rfl,HH.out.new dX.but⟩
theorem Cz (h:StQ P w0 w be bw tx inp s bl lv l vo vb gs fv) (hF:FrS P w0 w im b bf d Xb vl vi bl) (u v:V) (pl n pn pc:Nat) (c:UInt8) (pa:Option Addr) (q:V) (hq:l[n]?=some q):
  Calls Tryz.prog 156 #[.pointer (some ⟨be,0,none⟩),.pointer (some ⟨bf,0,none⟩),.agg #[.int .i64 pl,.int .u8 108,.int .u8 c.toNat,.int .i64 n,.slice pa pn pc],aG u,aG v] w (ReV P w0 w be bw tx inp bl lv (.ok q l s)):=by
 have a0:=hid (doW (w:=w) (pl:=pl) (op:=108) (n:=n) (pn:=pn) (pc:=pc) (c:=c) (pa:=pa) (u:=u) (v:=v));rw[show((108:Nat):Int)=108 from rfl]at a0;obtain⟨_,_,_,_,_,_,c6,a3⟩:=hF.cells;have HC:=hid (fun X (hX:But (fun _=>False) w X)=>AD (h.new hX) n q hq);have HH:=hid h;clear h hF hq;unfold aG at*
 go_in
 go_wp2_with fail;revert a0;generalize ((((w.alloc (.cells #[.int .i64 pl,.int .u8 108,.int .u8 c.toNat,.int .i64 n,.slice pa pn pc] 219)).alloc (.cells #[.int .i32 (xN u),.int .i64 (xO u)] 168)).alloc (.cells #[.int .i32 (xN v),.int .i64 (xO v)] 168)).alloc (.cells #[.int .i32 0,.int .i64 0] 168))=W;intro a0;have hD:=a0.out;obtain⟨i0,i1,i2,i3,i4⟩:=hD.item;have a7:=hD.sz;have hN:=hD.nb;have c6W:=hN.but.kc c6 a3;have a5:cP W (w.heap.size+1+1+1):=⟨0,0,hD.b3⟩;clear a0 hD c6 i0 i1 i2 i4;have a1:But (fun _=>False) W W.drew:=But.drew _ _;have m0:w.heap.size<W.heap.size:=by omega
 have m3:bf<W.heap.size:=by omega
 refine aD (But (fun _=>False) W) 6 (by kernel_rfl) ?_
 iterate 6 (refine dB (v:=?_) rfl (by kernel_rfl) (fun _ _ _ h=>h) rfl a1 ?_ ?_;rotate_left;(focus (intro wS h;have q0:=(h.kc c6W m3);have q1:=(h.kc i3 m0);clear h;go_simp;try rfl));dsimp only[Act.put];try simp only[aL])
 refine ah rfl (by kernel_rfl) ?_;intro KS hKS;go_simp;refine(HC.out _ (hN.but.trans a1)).mono ?_;rintro en w1 ⟨rfl,a2⟩;refine hKS.out _ _ nofun ?_;clear hKS KS HC;have HF:=hid (fun a b=>HH.out.fin0 hN (a1.trans a2) (r:=w.heap.size+1+1+1) (by omega) a5 a b);obtain⟨K9,N9,r0,r1,z0,z1,a6⟩:=(HF.out 0 0).1.parts;have a4:=(HF.out 0 0).1;clear HH i3 c6W a1;refine jX rfl (by kernel_rfl) ?_;go_wp2_with fail;exact cU Tryz.results156 rfl rfl rfl (a4.put _ _) ⟨(HF.out _ _).2.1,_,_,_,_,rfl,(HF.out _ _).2.2⟩
theorem CA (h:StQ P w0 w be bw tx inp s bl lv l vo vb gs fv) (hF:FrS P w0 w im b bf d Xb vl vi bl) (u v:V) (pl n pn pc:Nat) (c:UInt8) (pa:Option Addr) (hn:n<l.length):
  Calls Tryz.prog 156 #[.pointer (some ⟨be,0,none⟩),.pointer (some ⟨bf,0,none⟩),.agg #[.int .i64 pl,.int .u8 115,.int .u8 c.toNat,.int .i64 n,.slice pa pn pc],aG u,aG v] w (ReV P w0 w be bw tx inp bl lv (.ok (.i 0) (l.set n u) s)):=by
 have a0:=hid (doW (w:=w) (pl:=pl) (op:=115) (n:=n) (pn:=pn) (pc:=pc) (c:=c) (pa:=pa) (u:=u) (v:=v));rw[show((115:Nat):Int)=115 from rfl]at a0;obtain⟨_,_,_,_,_,_,c6,a4⟩:=hF.cells;have HC:=hid (fun X (hX:NB w X)=>qR (h.grown hX) n u hn);have h0:=h.old.size;clear h hF hn;unfold aG at*
 go_in
 go_wp2_with fail;revert a0;generalize ((((w.alloc (.cells #[.int .i64 pl,.int .u8 115,.int .u8 c.toNat,.int .i64 n,.slice pa pn pc] 219)).alloc (.cells #[.int .i32 (xN u),.int .i64 (xO u)] 168)).alloc (.cells #[.int .i32 (xN v),.int .i64 (xO v)] 168)).alloc (.cells #[.int .i32 0,.int .i64 0] 168))=W;intro a0;have hD:=a0.out;obtain⟨i0,i1,i2,i3,i4⟩:=hD.item;obtain⟨v0,v1,v2,v3⟩:=hD.vals;have a8:=hD.sz;have hN:=hD.nb;have c6W:=hN.but.kc c6 a4;have a6:cP W (w.heap.size+1+1+1):=⟨0,0,hD.b3⟩;clear a0 hD c6 i0 i1 i2 i4 v2 v3;have a1:But (fun _=>False) W W.drew:=But.drew _ _;have m0:w.heap.size<W.heap.size:=by omega
 have m1:w.heap.size+1<W.heap.size:=by omega
 have m3:bf<W.heap.size:=by omega
 refine aD (But (fun _=>False) W) 7 (by kernel_rfl) ?_
 iterate 7 (refine dB (v:=?_) rfl (by kernel_rfl) (fun _ _ _ h=>h) rfl a1 ?_ ?_;rotate_left;(focus (intro wS h;have q0:=(h.kc c6W m3);have q1:=(h.kc i3 m0);have q2:=(h.kc v0 m1);have q3:=(h.kc v1 m1);clear h;go_simp;try rfl));dsimp only[Act.put];try simp only[aL])
 refine ah rfl (by kernel_rfl) ?_;intro KS hKS;go_simp;refine(HC.out _ hN.drew).mono ?_;rintro en w1 ⟨rfl,a2,a3⟩;refine hKS.out _ _ nofun ?_;clear hKS KS HC;refine aH rfl (by kernel_rfl) ?_;have HF:=hid (fun a b=>StQ.fin hN.drew h0 a3 a2 (r:=w.heap.size+1+1+1) (by omega) (a6.but a1 (fun h=>h)) a b);obtain⟨K9,N9,r0,r1,z0,z1,a7⟩:=(HF.out 0 0).1.parts;have a5:=(HF.out 0 0).1;clear i3 c6W a1 v0 v1 a3 a2;go_wp2_with fail;exact cU Tryz.results156 rfl rfl rfl (a5.put _ _) ⟨(HF.out _ _).2.1,_,_,_,_,rfl,(HF.out _ _).2.2⟩
theorem CB (h:StQ P w0 w be bw tx inp s bl lv l vo vb gs fv) (u v:V) (pl n pn pc:Nat) (c:UInt8) (pa:Option Addr) (r:R)
  (HD: ∀X,NB w X→Calls Tryz.prog 208 #[.pointer (some ⟨be,0,none⟩),.pointer (some ⟨bf,0,none⟩),.agg #[.int .i64 pl,.int .u8 99,.int .u8 c.toNat,.int .i64 n,.slice pa pn pc],aG u,aG v] X (ReV (PQ P w X) w0 X be bw tx inp bl lv r)):
  Calls Tryz.prog 156 #[.pointer (some ⟨be,0,none⟩),.pointer (some ⟨bf,0,none⟩),.agg #[.int .i64 pl,.int .u8 99,.int .u8 c.toNat,.int .i64 n,.slice pa pn pc],aG u,aG v] w (ReV P w0 w be bw tx inp bl lv r):=by
 have a0:=hid (doW (w:=w) (pl:=pl) (op:=99) (n:=n) (pn:=pn) (pc:=pc) (c:=c) (pa:=pa) (u:=u) (v:=v));rw[show((99:Nat):Int)=99 from rfl]at a0;have HC:=hid HD;have h0:=h.old.size;clear h HD;unfold aG at*
 go_in
 go_wp2_with fail;revert a0;generalize ((((w.alloc (.cells #[.int .i64 pl,.int .u8 99,.int .u8 c.toNat,.int .i64 n,.slice pa pn pc] 219)).alloc (.cells #[.int .i32 (xN u),.int .i64 (xO u)] 168)).alloc (.cells #[.int .i32 (xN v),.int .i64 (xO v)] 168)).alloc (.cells #[.int .i32 0,.int .i64 0] 168))=W;intro a0;have hD:=a0.out;have a7:=hD.sz;have hN:=hD.nb;have a5:cP W (w.heap.size+1+1+1):=⟨0,0,hD.b3⟩;refine(HC.out _ hN).mono ?_;intro en w1 a4;obtain⟨K,N,e,rfl,a1⟩:=ReV.pass hN h0 a4;obtain⟨a3,a2⟩:=a1 (w.heap.size+1+1+1) (by omega) a5;obtain⟨K9,N9,r0,r1,z0,z1,a6⟩:=a3.parts;have HF:=hid a2;clear a2 a1 a4 HC a0 hD
 go_wp2_with fail;exact cU Tryz.results156 rfl rfl rfl (a3.put _ _) HF.out
end
section
variable {P:Nat→Prop} {w0 w:World} {be bw tx bl:Nat} {inp:ByteArray} {s:Ev} {lv vo vb:Value} {l:List V} {gs:List Nat} {fv:List Value}
theorem StQ.add (h:StQ P w0 w be bw tx inp s bl lv l vo vb gs fv) {k:Nat} {c:Array Value} {fz:Nat×Nat} (hk:w.heap[k]?=some (.cells c 234 fz)):StQ (fun j=>P j∨j=k) w0 w be bw tx inp s bl lv l vo vb gs fv:=by
 refine⟨h.old,h.ev,h.wd,h.out,h.ob,h.lg,h.lf,h.obs,h.nd,h.lb,h.lo,fun j hj=>⟨(h.own j hj).1,fun hp=> ?_⟩,fun j hj=> ?_,h.sl,h.sf⟩
 ·rcases hp with hp|rfl
  ·exact(h.own j hj).2 hp
  ·rcases hj with rfl|rfl|rfl|hj|hj|hj|hj| ⟨v,hv,hj⟩
   ·exact bv h.ev hk (by decide) rfl
   ·exact bv h.wd hk (by decide) rfl
   ·exact bv h.lb hk (by decide) rfl
   ·exact aC h.out hk (by decide) hj
   ·exact aC h.ob hk (by decide) hj
   ·exact aC h.lo hk (by decide) hj
   ·obtain⟨c',v',ho⟩:=h.mg hj;exact bv ho hk (by decide) rfl
   ·obtain⟨n',xs,ho⟩:=h.mv hv;exact aC ho hk (by decide) hj
 ·rcases hj with hj|rfl
  ·exact h.pl j hj
  ·exact⟨ae hk,fun c' fz' e=>by rw[hk]at e;injection e with e;injection e with _ h2;exact absurd h2 (by decide)⟩
end
def jQ (im:Img) (inp:ByteArray) (w0:World) (be bw tx f:Nat):Prop:=
 ∀(b:Bod) (d i:Nat) (l:List V) (s:Ev) (t:UInt8) (F B:Nat) (P:Nat→Prop) (w:World) (bl:Nat) (lv vo vb:Value) (gs:List Nat) (fv:List Value) (bf:Nat) (X:bz) (vl vi:Value),b∈im.bodies→d≤12→bY im.classes im.sigs b.locals b.code F i=some t→LT im.classes s.heap b.locals l→StT im B s→s.left≤f→StQ P w0 w be bw tx inp s bl lv l vo vb gs fv→FrS P w0 w im b bf d X vl vi bl→
  Calls Tryz.prog 93 #[.pointer (some ⟨be,0,none⟩),.pointer (some ⟨bf,0,none⟩),.int .i64 i] w (ReV P w0 w be bw tx inp bl lv (bn im inp f b d i l s))
def zw (l:List V):R→R
 | .bad e o=> .bad e o
 | .ok r _ s=> .ok r l s
theorem sW {b:Bod} (h:2≤b.locals.length) (u v:V):((b.locals.map cC).set 0 u).set 1 v=aR b [u,v]:=by
 match hb:b.locals,h with
 |x::y::t,_=>simp[aR,hb]
theorem CC {w0:World} {tx:Nat} {im:Img} {bs:List bz} (hW:gH im) (hB:gC w0 0 im.sigs bs im.bodies) (m c:Nat) (hc:c<im.classes.length):eM (im.classes.map toX) bs m (im.classes.map toX).length (UInt8.ofNat (65+c))=cE im.classes im.bodies m 5 c:=by
 have:=hW.nc;rw[List.length_map,mA hB.heads,gV hW.cls hW.nc (fun b hb=>vy (hW.bod b hb) hW.nc) m im.classes.length 5 c hc hc (by omega)]
section
variable {P:Nat→Prop} {w0 w:World} {be bw tx bl:Nat} {inp:ByteArray} {s:Ev} {lv vo vb:Value} {l:List V} {gs:List Nat} {fv:List Value} {im:Img} {b:Bod} {bf d:Nat} {Xb:bz} {vl vi:Value}
theorem pS (h:StQ P w0 w be bw tx inp s bl lv l vo vb gs fv) (hF:FrS P w0 w im b bf d Xb vl vi bl) (u v:V) (pl n pn pc:Nat) (c:UInt8) (pa:Option Addr) (e:Nat) (he:(bK e !=0)=true)
  (HC': ∀X,But (fun _=>False) w X→Calls Tryz.prog 193 #[.pointer (some ⟨bw,0,none⟩),aG u,.int .i64 n,.int .i64 d] X fun en w'=>But (fun _=>False) X w'∧en= .returned (.tuple #[.int .i64 (-1),.int .i64 (bK e)])):
  Calls Tryz.prog 208 #[.pointer (some ⟨be,0,none⟩),.pointer (some ⟨bf,0,none⟩),.agg #[.int .i64 pl,.int .u8 99,.int .u8 c.toNat,.int .i64 n,.slice pa pn pc],aG u,aG v] w (ReV P w0 w be bw tx inp bl lv (.bad e s.out)):=by
 have a1:=hid (doW (w:=w) (pl:=pl) (op:=99) (n:=n) (pn:=pn) (pc:=pc) (c:=c) (pa:=pa) (u:=u) (v:=v));rw[show((99:Nat):Int)=99 from rfl]at a1;obtain⟨a0,_,_,_,_,_,_,a7⟩:=hF.cells;have e1:=h.ev.c1;have a8:=h.ev.lt;have HC:=hid HC';have HH:=hid h;have a6:=hid hF;clear h hF HC';unfold aG at*
 go_in
 go_wp2_with fail;revert a1;generalize ((((w.alloc (.cells #[.int .i64 pl,.int .u8 99,.int .u8 c.toNat,.int .i64 n,.slice pa pn pc] 219)).alloc (.cells #[.int .i32 (xN u),.int .i64 (xO u)] 168)).alloc (.cells #[.int .i32 (xN v),.int .i64 (xO v)] 168)).alloc (.cells #[.int .i32 0,.int .i64 0] 168))=W;intro a1;have hD:=a1.out;obtain⟨i0,i1,i2,i3,i4⟩:=hD.item;obtain⟨v0,v1,v2,v3⟩:=hD.vals;have b2:=hD.sz;have hN:=hD.nb;have e1W:=hN.but.kc e1 a8;have a0W:=hN.but.kc a0 a7;have b0:cP W (w.heap.size+1+1+1):=⟨0,0,hD.b3⟩;clear a1 e1 a0 i0 i1 i2 i4 v2 v3;have a2:But (fun _=>False) W W.drew:=But.drew _ _;have m0:w.heap.size<W.heap.size:=by omega
 have m1:w.heap.size+1<W.heap.size:=by omega
 have m2:be<W.heap.size:=by omega
 have m3:bf<W.heap.size:=by omega
 refine aD (But (fun _=>False) W) 11 (by kernel_rfl) ?_
 iterate 11 (refine dB (v:=?_) rfl (by kernel_rfl) (fun _ _ _ h=>h) rfl a2 ?_ ?_;rotate_left;(focus (intro wS h;have q0:=(h.kc e1W m2);have q1:=(h.kc a0W m3);have q2:=(h.kc i3 m0);have q3:=(h.kc v0 m1);have q4:=(h.kc v1 m1);clear h;go_simp;try rfl));dsimp only[Act.put];try simp only[aL])
 refine ah rfl (by kernel_rfl) ?_;intro KS hKS;go_simp;refine(HC.out _ (hN.but.trans a2)).mono ?_;rintro en w1 ⟨a4,rfl⟩;refine hKS.out _ _ nofun ?_;clear hKS KS HC
 iterate 5 (refine fU (v:=?_) rfl (by kernel_rfl) (fun _ _ _ h=>h) rfl ?_ ?_;rotate_left;(focus (intro wS;go_simp;try rfl));dsimp only[Act.put];try simp only[aL])
 refine aH rfl (by kernel_rfl) ?_;have a3:=a2.trans a4;clear a2 a4 i3 v0 v1 e1W;have HF:=hid (fun a b=>HH.out.fin0 hN a3 (r:=w.heap.size+1+1+1) (by omega) b0 a b);have a5:=(HF.out 0 0).1;obtain⟨K9,N9,r0,r1,z0,z1,b1⟩:=a5.parts;clear HH a6 hD a0W;go_wp2_with fail;exact cU Tryz.results208 rfl rfl rfl (a5.put _ _) ⟨(HF.out _ _).2.1,_,_,_,_,rfl,s,l,rfl,(HF.out _ _).2.2⟩
theorem zx {B f q:Nat} {t:UInt8} {F:Nat} (IH:jQ im inp w0 be bw tx f) (hT:dA w0 tx im) (hs:StT im B s) (hsf:s.left≤f) (hd:d<12) (cb:Bod) (hbm:cb∈im.bodies) (hq:im.bodies[q]?=some cb) (hnb:im.bodies.length≤7) (hlo:cb.locals.length≤5) (hl2:2≤cb.locals.length) (hty:bY im.classes im.sigs cb.locals cb.code F 0=some t) (u v:V) (hLT:LT im.classes s.heap cb.locals (aR cb [u,v])) (h:StQ P w0 w be bw tx inp s bl lv l vo vb gs fv) (hF:FrS P w0 w im b bf d Xb vl vi bl) (pl n pn pc:Nat) (c:UInt8) (pa:Option Addr)
  (HC': ∀X,But (fun _=>False) w X→Calls Tryz.prog 193 #[.pointer (some ⟨bw,0,none⟩),aG u,.int .i64 n,.int .i64 d] X fun en w'=>But (fun _=>False) X w'∧en= .returned (.tuple #[.int .i64 q,.int .i64 0])):
  Calls Tryz.prog 208 #[.pointer (some ⟨be,0,none⟩),.pointer (some ⟨bf,0,none⟩),.agg #[.int .i64 pl,.int .u8 99,.int .u8 c.toNat,.int .i64 n,.slice pa pn pc],aG u,aG v] w (ReV P w0 w be bw tx inp bl lv (zw l (bn im inp f cb (d+1) 0 (aR cb [u,v]) s))):=by
 have b6:=hid (doW (w:=w) (pl:=pl) (op:=99) (n:=n) (pn:=pn) (pc:=pc) (c:=c) (pa:=pa) (u:=u) (v:=v));rw[show((99:Nat):Int)=99 from rfl]at b6;obtain⟨a0,_,_,_,_,_,_,g6⟩:=hF.cells;have e1:=h.ev.c1;have g7:=h.ev.lt;have HC:=hid HC';have HH:=hid h;have f1:=hid hF;clear h hF HC';unfold aG at*
 go_in
 go_wp2_with fail;revert b6;generalize ((((w.alloc (.cells #[.int .i64 pl,.int .u8 99,.int .u8 c.toNat,.int .i64 n,.slice pa pn pc] 219)).alloc (.cells #[.int .i32 (xN u),.int .i64 (xO u)] 168)).alloc (.cells #[.int .i32 (xN v),.int .i64 (xO v)] 168)).alloc (.cells #[.int .i32 0,.int .i64 0] 168))=W;intro b6;have hD:=b6.out;obtain⟨i0,i1,i2,i3,i4⟩:=hD.item;obtain⟨v0,v1,v2,v3⟩:=hD.vals;have i6:=hD.sz;have hN:=hD.nb;have e1W:=hN.but.kc e1 g7;have a0W:=hN.but.kc a0 g6;have h0:cP W (w.heap.size+1+1+1):=⟨0,0,hD.b3⟩;clear b6 e1 a0 i0 i1 i2 i4 v2 v3;have a5:But (fun _=>False) W W.drew:=But.drew _ _;have m0:w.heap.size<W.heap.size:=by omega
 have m1:w.heap.size+1<W.heap.size:=by omega
 have m2:be<W.heap.size:=by omega
 have m3:bf<W.heap.size:=by omega
 refine aD (But (fun _=>False) W) 11 (by kernel_rfl) ?_
 iterate 11 (refine dB (v:=?_) rfl (by kernel_rfl) (fun _ _ _ h=>h) rfl a5 ?_ ?_;rotate_left;(focus (intro wS h;have q0:=(h.kc e1W m2);have q1:=(h.kc a0W m3);have q2:=(h.kc i3 m0);have q3:=(h.kc v0 m1);have q4:=(h.kc v1 m1);clear h;go_simp;try rfl));dsimp only[Act.put];try simp only[aL])
 refine ah rfl (by kernel_rfl) ?_;intro KS hKS;go_simp;refine(HC.out _ (hN.but.trans a5)).mono ?_;rintro en w1 ⟨f2,rfl⟩;refine hKS.out _ _ nofun ?_;clear hKS KS HC
 iterate 5 (refine fU (v:=?_) rfl (by kernel_rfl) (fun _ _ _ h=>h) rfl ?_ ?_;rotate_left;(focus (intro wS;go_simp;try rfl));dsimp only[Act.put];try simp only[aL])
 refine aH rfl (by kernel_rfl) ?_;have a4:=a5.trans f2;clear a5 f2 i3 v0 v1 e1W;have b5:=(HH.out.grown hN).new a4;have e9:=(f1.out.grown hN).but (a4.mono (fun _ _ h=>h.elim));have e5:=hid (qS b5 im hT q (d+1) cb hq hlo (by omega));have a0W1:=a4.kc a0W m3;have h5:bf<w1.heap.size:=Nat.lt_of_lt_of_le m3 a4.size;have h9:(d:Int)<12:=by omega
 rw[show((d+1:Nat):Int)=(d:Int)+1 from by simp]at e5;clear a0W;go_wp2_with fail;refine e5.out.mono ?_;rintro en w2 ⟨e3,bl2,h1,X2,vl2,vi2,rfl,a8,e7,f5,f7,e0,c6,f0⟩;have h2:=b5.enter (l':=cb.locals.map cC) a8 f7 (by simpa using e0) c6;have h3:=h2.add e7;obtain⟨P2,e4⟩: ∃P2:Nat→Prop,(fun j=>(PQ P w W j∨o7 bl lv j)∨j=e3)=P2:=⟨_,rfl⟩;rw[e4]at h3;have p1: ∀k,PQ P w W k∨o7 bl lv k→P2 k:=fun k hk=>by rw[←e4];exact Or.inl hk
 have p2:P2 e3:=by rw[←e4];exact Or.inr rfl
 have g1:=((a4.trans a8).block _ m1 (fun h=>h)).trans hD.b1;have g2:=((a4.trans a8).block _ (by omega) (fun h=>h)).trans hD.b2;have i7:P2 (w.heap.size+1):=p1 _ (Or.inl (Or.inr ⟨by omega,m1⟩));have h6:P2 (w.heap.size+1+1):=p1 _ (Or.inl (Or.inr ⟨by omega,by omega⟩));have e8:FrS P2 w0 w2 im cb e3 (d+1) X2 vl2 vi2 bl2:=⟨e7,p2,f5⟩;have HQ:=hid (And.intro b5 (And.intro a8 a4));clear h2 b5 e9 e5 a0W1 h5 e4 e7 f5 f7 e0 c6 f0 f1 hD hq a8 a4;have HS:=hid (fun X (hX:But (fun _=>False) w2 X)=>qR (h3.new hX) 0 u (by simp;omega));obtain⟨_,_,_,_,_,_,y6,y7⟩:=e8.cells;obtain⟨x0,x1,x2⟩:w2.cell? ⟨w.heap.size+1,0,none⟩=some (.int .i32 (xN u))∧w2.cell? ⟨w.heap.size+1,1,none⟩=some (.int .i64 (xO u))∧w.heap.size+1<w2.heap.size:=⟨by rw[cell_of_row w2 _ 0 _ _ (0,0) g1];rfl,by rw[cell_of_row w2 _ 1 _ _ (0,0) g1];rfl,ae g1⟩
 unfold aG at HS;clear h3;go_wp2_with fail;have a5:But (fun _=>False) w2 w2.drew:=But.drew _ _;refine aD (But (fun _=>False) w2) 5 (by kernel_rfl) ?_
 iterate 5 (refine dB (v:=?_) rfl (by kernel_rfl) (fun _ _ _ h=>h) rfl a5 ?_ ?_;rotate_left;(focus (intro wS h;have q0:=(h.kc y6 y7);have q1:=(h.kc x0 x2);have q2:=(h.kc x1 x2);clear h;go_simp;try rfl));dsimp only[Act.put];try simp only[aL])
 refine ah rfl (by kernel_rfl) ?_;intro KS hKS;go_simp;refine(HS.out _ a5).mono ?_;rintro en w3 ⟨rfl,f3,h3⟩;refine hKS.out _ _ nofun ?_;clear hKS KS HS;refine aH rfl (by kernel_rfl) ?_;have a6:But (FrQ P2 w0) w2 w3:=(a5.mono (fun _ _ h=>h.elim)).trans f3;have b4:=e8.but a6;have g3:=(a6.block _ (ae g2) (fun h=>h.2 h6)).trans g2;clear a5 f3 g1 g2 x0 x1 x2 y6 y7 e8;have HS:=hid (fun X (hX:But (fun _=>False) w3 X)=>qR (h3.new hX) 1 v (by simp;omega));obtain⟨_,_,_,_,_,_,y6,y7⟩:=b4.cells;obtain⟨x0,x1,x2⟩:w3.cell? ⟨w.heap.size+1+1,0,none⟩=some (.int .i32 (xN v))∧w3.cell? ⟨w.heap.size+1+1,1,none⟩=some (.int .i64 (xO v))∧w.heap.size+1+1<w3.heap.size:=⟨by rw[cell_of_row w3 _ 0 _ _ (0,0) g3];rfl,by rw[cell_of_row w3 _ 1 _ _ (0,0) g3];rfl,ae g3⟩
 unfold aG at HS;clear h3;go_wp2_with fail;have a5:But (fun _=>False) w3 w3.drew:=But.drew _ _;refine aD (But (fun _=>False) w3) 5 (by kernel_rfl) ?_
 iterate 5 (refine dB (v:=?_) rfl (by kernel_rfl) (fun _ _ _ h=>h) rfl a5 ?_ ?_;rotate_left;(focus (intro wS h;have q0:=(h.kc y6 y7);have q1:=(h.kc x0 x2);have q2:=(h.kc x1 x2);clear h;go_simp;try rfl));dsimp only[Act.put];try simp only[aL])
 refine ah rfl (by kernel_rfl) ?_;intro KS hKS;go_simp;refine(HS.out _ a5).mono ?_;rintro en w4 ⟨rfl,f4,h4⟩;refine hKS.out _ _ nofun ?_;clear hKS KS HS;refine aH rfl (by kernel_rfl) ?_;have b0:But (FrQ P2 w0) w3 w4:=(a5.mono (fun _ _ h=>h.elim)).trans f4;have b9:=b4.but b0;rw[sW hl2]at h4;have HC:=hid (IH cb (d+1) 0 _ s t F B P2 w4 bl2 h1 vo vb gs fv e3 X2 vl2 vi2 hbm (by omega) hty hLT hs hsf h4 b9);clear a5 f4 g3 x0 x1 x2 y6 y7 b4 b9 h4;go_wp2_with fail;refine HC.out.mono ?_;intro en w5 a7
 have e2:ReV (PQ P w W) w0 W be bw tx inp bl lv (zw l (bn im inp f cb (d+1) 0 (aR cb [u,v]) s)) en w5:=by
  obtain⟨b5,a8,a4⟩:=HQ.out;obtain⟨g4,h8,h7,g0,f9,a7⟩:=a7;have e6:But (FrQ P2 w0) w1 w5:=(((a8.mono (fun _ _ h=>h.elim)).trans a6).trans b0).trans g4;have g5:But (FrQ (PQ P w W) w0) W w5:=(a4.mono (fun _ _ h=>h.elim)).trans (e6.mono (fun k _ hf=>⟨hf.1,fun hp=>hf.2 (p1 k (Or.inl hp))⟩));refine⟨g5,h8,h7,g0,f9,?_⟩
  cases hn:bn im inp f cb (d+1) 0 (aR cb [u,v]) s with
  |ok r l5 s5=>
   rw[hn]at a7;exact⟨a7.1,b5.leave a7.2 e6 p1⟩
  |bad e o=>
   rw[hn]at a7;obtain⟨a1,s5,l5,a2,a3⟩:=a7;exact⟨a1,s5,l,a2,b5.leave a3 e6 p1⟩
 obtain⟨K,N,e,rfl,d6⟩:=ReV.pass hN HH.out.old.size e2;obtain⟨f8,f6⟩:=d6 (w.heap.size+1+1+1) (by omega) h0;obtain⟨K9,N9,r0,r1,z0,z1,i5⟩:=f8.parts;have HF:=hid f6;clear f6 d6 a7 e2 HC HQ a6 b0 IH hT hs hLT hty;go_wp2_with fail;exact cU Tryz.results208 rfl rfl rfl (f8.put _ _) HF.out
end
end
section
open Go Go.RowKit Sp
def PL (P:Nat→Prop) (be bl:Nat) (lv:Value) (k:Nat):Prop:=P k∨k=be∨k=bl∨lv.ownBlock=some k
def Bd (l:List V) (s:Ev):R→Prop
 | .ok _ l' s'=>l'=l∧s'.left=s.left
 | .bad _ _=>True
section
variable {P:Nat→Prop} {w0 w w':World} {be bw tx bl:Nat} {inp:ByteArray} {s s':Ev} {lv vo vb:Value} {l:List V} {gs:List Nat} {fv:List Value}
theorem StQ.wq (h:StQ P w0 w be bw tx inp s bl lv l vo vb gs fv):WdQ (PL P be bl lv) w0 w bw tx inp s vo vb gs fv 0 (fun _=>0):=by
 refine⟨h.old,h.wd,h.out,h.ob,h.lg,h.lf,h.obs,h.nd,fun k hk=> ?_,fun k hk=> ?_,h.sf,Int.le_refl _,fun k=>⟨Int.le_refl _,Int.le_refl _⟩⟩
 ·have hq:uC be bw bl vo vb lv gs fv k:=by
   rcases hk with e|e|e|e|e
   ·exact Or.inr (Or.inl e)
   ·exact Or.inr (Or.inr (Or.inr (Or.inl e)))
   ·exact Or.inr (Or.inr (Or.inr (Or.inr (Or.inl e))))
   ·exact Or.inr (Or.inr (Or.inr (Or.inr (Or.inr (Or.inr (Or.inl e))))))
   ·exact Or.inr (Or.inr (Or.inr (Or.inr (Or.inr (Or.inr (Or.inr e))))))
  refine⟨(h.own k hq).1,fun hp=> ?_⟩
  have no: ∀{c:Array Value} {t:TypeId},w.heap[k]?=some (.cells c t)→t≠211→t≠5→t≠315→t≠318→t≠168→False:=fun hc t1 t2 t3 t4 t5=>by
   rcases hk with e|e|e|e| ⟨v,hv,e⟩
   ·exact bv hc h.wd (Ne.symm t1) e
   ·exact aC h.out hc (Ne.symm t2) e
   ·exact aC h.ob hc (Ne.symm t3) e
   ·obtain⟨_,_,ho⟩:=h.mg e;exact bv ho hc t4 rfl
   ·obtain⟨_,_,ho⟩:=h.mv hv;exact aC ho hc (Ne.symm t5) e
  rcases hp with hp|rfl|rfl|hp
  ·exact(h.own k hq).2 hp
  ·exact no h.ev (by decide) (by decide) (by decide) (by decide) (by decide)
  ·exact no h.lb (by decide) (by decide) (by decide) (by decide) (by decide)
  ·rcases hk with e|e|e|e| ⟨v,hv,e⟩
   ·exact aC h.lo h.wd (by decide) (e▸hp)
   ·exact jL h.lo h.out (by decide) hp e
   ·exact jL h.lo h.ob (by decide) hp e
   ·obtain⟨_,_,ho⟩:=h.mg e;exact aC h.lo ho (by decide) hp
   ·exact h.sl v hv k e hp
 ·rcases hk with hp|rfl|rfl|hp
  ·exact h.pl k hp
  ·exact⟨ae h.ev,fun c fz e=>bv h.ev e (by decide) rfl⟩
  ·exact⟨ae h.lb,fun c fz e=>bv h.lb e (by decide) rfl⟩
  ·exact⟨aX h.lo k hp,fun c fz e=>aC h.lo e (by decide) hp⟩
theorem StQ.ofW {vo' vb':Value} {gs':List Nat} {fv':List Value} {sn:Nat→Int} (h:StQ P w0 w be bw tx inp s bl lv l vo vb gs fv) (hB:But (FrQ (PL P be bl lv) w0) w w') (hw:WdQ (PL P be bl lv) w0 w' bw tx inp s' vo' vb' gs' fv' 0 sn) (hs:s'.left=s.left):StQ P w0 w' be bw tx inp s' bl lv l vo' vb' gs' fv':=by
 have o:=h.own;refine⟨hw.old,hs▸h.ev.but hB (fun e=>e.2 (Or.inr (Or.inl rfl))),hw.wd,hw.out,hw.ob,hw.lg,hw.lf,fun k o g v a b c=> ?_,hw.nd,(hB.block bl (ae h.lb) (fun e=>e.2 (Or.inr (Or.inr (Or.inl rfl))))).trans h.lb,ag h.lo hB (fun g hg e=>e.2 (Or.inr (Or.inr (Or.inr hg)))),fun k hk=> ?_,fun k hk=>hw.pl k (Or.inl hk),fun v hv g hg e=>(hw.k8 hv hg).2 (Or.inr (Or.inr (Or.inr e))),hw.sf⟩
 ·have h1:=hw.obs k o g v a b c;have h2:=hw.se.2 k;have h3:sn k=0:=by omega
  rw[h3]at h1;exact h1
 ·rcases hk with e|e|e|e|e|e|e|e
  ·exact o k (Or.inl e)
  ·exact⟨(hw.own k (Or.inl e)).1,fun hp=>(hw.own k (Or.inl e)).2 (Or.inl hp)⟩
  ·exact o k (Or.inr (Or.inr (Or.inl e)))
  ·exact⟨(hw.k4 e).1,fun hp=>(hw.k4 e).2 (Or.inl hp)⟩
  ·exact⟨(hw.k5 e).1,fun hp=>(hw.k5 e).2 (Or.inl hp)⟩
  ·exact o k (Or.inr (Or.inr (Or.inr (Or.inr (Or.inr (Or.inl e))))))
  ·exact⟨(hw.k7 e).1,fun hp=>(hw.k7 e).2 (Or.inl hp)⟩
  ·obtain⟨v,hv,e⟩:=e;exact⟨(hw.k8 hv e).1,fun hp=>(hw.k8 hv e).2 (Or.inl hp)⟩
theorem l8 {f:Nat} {args:Array Value} {r:R} (h:StQ P w0 w be bw tx inp s bl lv l vo vb gs fv) (hr:Bd l s r) (H:Calls Tryz.prog f args w (ReW (PL P be bl lv) w0 w bw tx inp 0 r)):Calls Tryz.prog f args w (ReV P w0 w be bw tx inp bl lv r):=by
 refine H.mono ?_;rintro en w' ⟨hB,vo',vb',gs',fv',sn,hm⟩;refine⟨hB.mono (fun _ _ e=>⟨e.1,fun hp=>e.2 (Or.inl hp)⟩),vo',vb',gs',fv',?_⟩
 cases r with
 |ok u l' s'=>
  obtain⟨rfl,h2⟩:=hr;exact⟨hm.1,h.ofW hB hm.2 h2⟩
 |bad e o=>
  obtain⟨h1,s',ho,hw⟩:=hm;exact⟨h1,{s' with left:=s.left},l,ho,h.ofW hB (hw.left _) rfl⟩
end
theorem sX {x:Ins} (h:bJ x.op=true):(bG x).op.toNat=107∧(bG x).num=x.b:=by simp[bG,h]
theorem eS {x:Ins} (h:58≤x.op.toNat∨x.op.toNat<48):(bG x).op.toNat=x.op.toNat∧(bG x).num=x.b∧(x.op.toNat=110∨x.op.toNat=120∨x.op.toNat=103∨x.op.toNat=112∨x.op.toNat=99→(bG x).cls=UInt8.ofNat (65+x.a)):=by
 have h1:bJ x.op=false:=by simp[bJ];omega
 simp only[bG,h1,Bool.false_eq_true,if_false,aK];exact⟨trivial,trivial,fun h=>by rw[if_pos h]⟩
section
variable {P:Nat→Prop} {w0 w:World} {be bw tx bl:Nat} {inp:ByteArray} {s:Ev} {lv vo vb:Value} {l:List V} {gs:List Nat} {fv:List Value} {im:Img} {b:Bod} {bf d:Nat} {Xb:bz} {vl vi:Value}
abbrev itN (x:Ins) (pa:Option Addr) (pl pn pc:Nat):Value:= .agg #[.int .i64 pl,.int .u8 (bG x).op.toNat,.int .u8 (bG x).cls.toNat,.int .i64 (bG x).num,.slice pa pn pc]
theorem qU (op:Nat) (a b:Int) (l:List V) (s:Ev):Bd l s (cX op a b l s):=by
 unfold cX
 repeat' split
 all_goals first|exact⟨rfl,rfl⟩ |trivial
theorem zy {B:Nat} (h:StQ P w0 w be bw tx inp s bl lv l vo vb gs fv) (hF:FrS P w0 w im b bf d Xb vl vi bl) (hT:dA w0 tx im) (hW:gH im) (hs:StT im B s) (h40:inp.size≤40) (x:Ins) (hx:WfN im.classes im.sigs.length l.length x) (hx0:az x.op=0) (u v:V) (pl pn pc:Nat) (pa:Option Addr):
  Calls Tryz.prog 156 #[.pointer (some ⟨be,0,none⟩),.pointer (some ⟨bf,0,none⟩),itN x pa pl pn pc,aG u,aG v] w (ReV P w0 w be bw tx inp bl lv (ef im inp x l s)):=by
 have a0:=hW.nc
 have a2:bJ x.op=true∨x.op.toNat=114∨x.op.toNat=122∨x.op.toNat=108∨x.op.toNat=110:=by
  have h1:=hx.op;simp[cV]at h1;rcases h1 with h1|h1|h1|h1|h1|h1|h1|h1|h1|h1|h1|h1|h1|h1|h1|h1|h1|h1|h1|h1|h1|h1|h1|h1|h1|h1|h1|h1|h1|h1<;>simp[az,h1,bJ]at hx0⊢
 unfold itN;rcases a2 with h1|h1|h1|h1|h1
 ·obtain⟨e1,e2⟩:=sX h1;have hd:48≤x.op.toNat∧x.op.toNat≤57:=by simpa[bJ]using h1
  rw[e1,e2,show ef im inp x l s= .ok (.i x.b) l s from by unfold ef;rw[if_neg (by omega),if_neg (by omega),if_neg (by omega),if_neg (by omega)]];exact dx h u v pl 107 x.b pn pc _ pa _ (by decide) (by decide) (by decide) (by decide) (fun X hX=>l8 (h.grown hX) ⟨rfl,rfl⟩ (A6 (h.grown hX).wq u v pl x.b pn pc _ pa hx.num))
 ·obtain⟨e1,e2,_⟩:=eS (x:=x) (by omega);rw[e1,e2,h1,show ef im inp x l s=_ from by unfold ef;rw[if_pos h1]];exact dx h u v pl 114 x.b pn pc _ pa _ (by decide) (by decide) (by decide) (by decide) (fun X hX=>l8 (h.grown hX) ⟨rfl,rfl⟩ (A8 (h.grown hX).wq h40 u v pl x.b pn pc _ pa))
 ·obtain⟨e1,e2,_⟩:=eS (x:=x) (by omega);rw[e1,e2,h1,show ef im inp x l s=_ from by unfold ef;rw[if_neg (by omega),if_pos h1]];exact dx h u v pl 122 x.b pn pc _ pa _ (by decide) (by decide) (by decide) (by decide) (fun X hX=>l8 (h.grown hX) ⟨rfl,rfl⟩ (A7 (h.grown hX).wq u v pl x.b pn pc _ pa))
 ·obtain⟨e1,e2,_⟩:=eS (x:=x) (by omega);have hb:=hx.loc (Or.inl h1);rw[e1,e2,h1,show ef im inp x l s= .ok (l.getD x.b .z) l s from by unfold ef;rw[if_neg (by omega),if_neg (by omega),if_pos h1]];exact Cz h hF u v pl x.b pn pc _ pa _ (by simp[hb])
 ·obtain⟨e1,e2,e3⟩:=eS (x:=x) (by omega);have ha:=hx.cls (Or.inl h1);rw[e1,e2,e3 (Or.inl h1),h1,show ef im inp x l s=_ from by unfold ef;rw[if_neg (by omega),if_neg (by omega),if_neg (by omega),if_pos h1]]
  have a1:(bj im.classes x.a).length≤100:=by
   have:=jF hW.cls a0 (UInt8.ofNat (65+x.a));rw[jP a0 ha]at this;omega
  exact dx h u v pl 110 x.b pn pc _ pa _ (by decide) (by decide) (by decide) (by decide) (fun X hX=>l8 (h.grown hX) ⟨rfl,rfl⟩ (Bb (h.grown hX).wq (by have:=hs.cap;omega) (im.classes.map toX) (by simp;omega) hT.cls ⟨x.a,cq im.classes x.a⟩ (bj im.classes x.a) u v pl x.b pn pc _ pa (et (by omega)) (jP a0 ha) a1 rfl))
theorem AI {B:Nat} (h:StQ P w0 w be bw tx inp s bl lv l vo vb gs fv) (hF:FrS P w0 w im b bf d Xb vl vi bl) (hT:dA w0 tx im) (htab:dw w0) (hR:dz im) (hs:StT im B s) (x:Ins) (lo:List UInt8) (hx:WfN im.classes im.sigs.length lo.length x) (hll:LT im.classes s.heap lo l) (hx1:az x.op=1) (ta tt:UInt8) (u v:V) (hu:VT im.classes s.heap ta u) (hnt:br im.classes im.sigs lo x [ta]=some tt) (pl pn pc:Nat) (pa:Option Addr):
  Calls Tryz.prog 156 #[.pointer (some ⟨be,0,none⟩),.pointer (some ⟨bf,0,none⟩),itN x pa pl pn pc,aG u,aG v] w (ReV P w0 w be bw tx inp bl lv (fV im x u l s)):=by
 have hW:=hR.wf;have a0:=hW.nc;have a4:=hs.cap;have h4:s.heap.length≤4000:=by omega
 have a5:x.op.toNat=115∨x.op.toNat=103∨x.op.toNat=120∨x.op.toNat=119:=by
  unfold az at hx1
  split at hx1
  ·omega
  ·split at hx1
   ·omega
   ·split at hx1
    ·rename_i h3;simpa using h3
    ·omega
 obtain⟨e1,e2,e3⟩:=eS (x:=x) (by omega);unfold itN;rcases a5 with h1|h1|h1|h1
 ·rw[e1,e2,h1,show fV im x u l s= .ok (.i 0) (l.set x.b u) s from by unfold fV;rw[if_pos h1]];exact CA h hF u v pl x.b pn pc _ pa (by rw[hll.len];exact hx.loc (Or.inr h1))
 ·have a2:=hx.cls (by omega);have a7:=hx.fld (by omega);simp[br,cH,bE,Sp.arith,h1]at hnt;obtain⟨hf,_⟩:=hnt;obtain⟨hC,a3⟩:=dC (a:=x.a) (by omega);have a6:=hu.sub hW.cls a0 hs.ht (t':=cL x.a) (sd (by simpa using hf)) (by have:=bL.1 hC;omega);rcases a6.ref (bR hC)with rfl| ⟨k,ob,rfl,hk,_,a1⟩
  ·rw[e1,e2,h1,show fV im x .z l s= .bad 6 s.out from by unfold fV;simp[h1]];exact dx h .z v pl 103 x.b pn pc _ pa _ (by decide) (by decide) (by decide) (by decide) (fun X hX=>l8 (h.grown hX) trivial (zo (h.grown hX).wq h4 v pl x.b pn pc _ pa))
  ·rw[a3]at a1;obtain⟨g1,g2⟩:=lw hR hs a2 a7 hk a1;obtain⟨q,hq⟩: ∃q,ob.fs[x.b]?=some q:=⟨_,List.getElem?_eq_getElem g1⟩;rw[e1,e2,h1,show fV im x (.o k) l s= .ok q l s from by unfold fV;simp[h1,(Ev.at hk).2,hq]];exact dx h (.o k) v pl 103 x.b pn pc _ pa _ (by decide) (by decide) (by decide) (by decide) (fun X hX=>l8 (h.grown hX) ⟨rfl,rfl⟩ (zp (h.grown hX).wq h4 hk q v pl x.b pn pc _ pa hq))
 ·have a2:=hx.cls (by omega);simp[br,cH,bE,Sp.arith,h1]at hnt;rcases hu.ref hnt.1 with rfl| ⟨k,ob,rfl,hk,_,a1⟩
  ·rw[e1,e2,h1,show fV im x .z l s= .ok .z l s from by unfold fV;simp[h1]];exact dx h .z v pl 120 x.b pn pc _ pa _ (by decide) (by decide) (by decide) (by decide) (fun X hX=>l8 (h.grown hX) ⟨rfl,rfl⟩ (zu (h.grown hX).wq h4 v pl x.b pn pc _ pa))
  ·have hcl:=hs.ht.cls k ob hk;rw[e1,e2,e3 (by omega),h1,show fV im x (.o k) l s=(if dc (im.classes.map toX) (UInt8.ofNat (65+x.a)) (im.classes.map toX).length (UInt8.ofNat (65+ob.cls))=true then .ok (.o k) l s else .bad 8 s.out)from by rw[pQ hW.cls a0 a2 hcl];unfold fV;simp[h1,(Ev.at hk).1]];exact dx h (.o k) v pl 120 x.b pn pc _ pa _ (by decide) (by decide) (by decide) (by decide) (fun X hX=>l8 (h.grown hX) (by split<;>first|exact⟨rfl,rfl⟩ |trivial) (zv (h.grown hX).wq h4 hk (im.classes.map toX) (by simp;omega) hT.cls _ (et (by omega)) v pl x.b pn pc _ pa))
 ·simp[br,cH,bE,Sp.arith,h1]at hnt;obtain⟨m,rfl,m1,m2⟩:=(hu.sub hW.cls a0 hs.ht (t':=105) (sd (by simpa using hnt.1)) (by decide)).int (by decide);rw[e1,e2,h1,show fV im x (.i m) l s= .ok (.i 0) l (s.say m)from by unfold fV;simp[h1,V.N]];exact dx h (.i m) v pl 119 x.b pn pc _ pa _ (by decide) (by decide) (by decide) (by decide) (fun X hX=>l8 (h.grown hX) ⟨rfl,rfl⟩ (A9 (h.grown hX).wq htab m m1 m2 (by have:=hs.o;omega) v pl x.b pn pc _ pa))
theorem CD {u v:V} (hu:(∃n,u= .i n)→False) (hv:(∃n,v= .i n)→False):xO u=xO v↔u=v:=by
 cases u<;>cases v<;>simp[xO]at hu hv⊢
 all_goals omega
theorem xD {B f:Nat} (IH:jQ im inp w0 be bw tx f) (h:StQ P w0 w be bw tx inp s bl lv l vo vb gs fv) (hF:FrS P w0 w im b bf d Xb vl vi bl) (hT:dA w0 tx im) (hR:dz im) (hs:StT im B s) (hsf:s.left≤f) (hd:d≤12) (x:Ins) (hxa:x.a<im.classes.length) (hxb:x.b<im.sigs.length) (hlk:0≤cE im.classes im.bodies x.b 5 x.a) (u v:V) (hu:VT im.classes s.heap (cL x.a) u) (hv':VT im.classes s.heap (ia im.sigs x.b) v) (pl pn pc:Nat) (c:UInt8) (pa:Option Addr):
  Calls Tryz.prog 208 #[.pointer (some ⟨be,0,none⟩),.pointer (some ⟨bf,0,none⟩),.agg #[.int .i64 pl,.int .u8 99,.int .u8 c.toNat,.int .i64 x.b,.slice pa pn pc],aG u,aG v] w (ReV P w0 w be bw tx inp bl lv (og im inp f d x u v l s)):=by
 have hW:=hR.wf;have b5:=hW.nc;have b1:=hW.nb;have a8:=hs.cap;have h4:s.heap.length≤4000:=by omega
 obtain⟨hC,a5⟩:=dC (a:=x.a) (by omega);rcases hu.ref (bR hC)with rfl| ⟨k,ob,rfl,hk,_,a4⟩
 ·exact pS h hF .z v pl x.b pn pc c pa 6 (by decide) (fun X hX=>pO (h.new hX).wq h4 x.b d)
 ·rw[a5]at a4;have hcl:=hs.ht.cls k ob hk;obtain⟨bs,a7,a0⟩:=hT.bod;have b2:bs.length=im.bodies.length:=a0.1;have HC:=fun X (hX:But (fun _=>False) w X)=>pP (h.new hX).wq h4 hk (im.classes.map toX) bs (by simp;omega) (by omega) hT.cls a7 (UInt8.ofNat (65+ob.cls)) (et (by omega)) x.b d
  rw[CC (tx:=tx) hW a0 x.b ob.cls hcl]at HC
  by_cases h12:12≤d
  ·rw[show og im inp f d x (.o k) v l s= .bad 10 s.out from by simp[og,h12]];simp only[h12,if_true]at HC;exact pS h hF (.o k) v pl x.b pn pc c pa 10 (by decide) HC
  ·simp only[h12,if_false]at HC;obtain⟨f0,a1,a2,b4,b3,b0,a6⟩:=lx hR hs hk hxa hxb a4 hlk hv';rw[(Ev.at hk).1]at a1 f0;obtain⟨q,hq⟩: ∃q:Nat,cE im.classes im.bodies x.b 5 ob.cls=q:=⟨_,(Int.toNat_of_nonneg f0).symm⟩;rw[hq]at HC a1;simp only[Int.toNat_natCast]at a1;have a3:=hR.ty _ a2;unfold dR at a3
   cases ht:bY im.classes im.sigs (ba im x k s).locals (ba im x k s).code (ba im x k s).code.length 0 with
   |none=>rw[ht]at a3;cases a3
   |some t=>
   rw[show og im inp f d x (.o k) v l s=zw l (bn im inp f (ba im x k s) (d+1) 0 (aR (ba im x k s) [.o k,v]) s)from by
    simp only[og,h12,if_false]
    cases bn im inp f (ba im x k s) (d+1) 0 (aR (ba im x k s) [.o k,v]) s<;>rfl]
   exact zx IH hT hs hsf (by omega) _ a2 a1 b1 (hW.bod _ a2).loc.1 b0 ht (.o k) v a6 h hF pl x.b pn pc c pa HC
theorem AJ {B f:Nat} (IH:jQ im inp w0 be bw tx f) (h:StQ P w0 w be bw tx inp s bl lv l vo vb gs fv) (hF:FrS P w0 w im b bf d Xb vl vi bl) (hT:dA w0 tx im) (hR:dz im) (hs:StT im B s) (hsf:s.left≤f) (hd:d≤12) (x:Ins) (lo:List UInt8) (hx:WfN im.classes im.sigs.length lo.length x) (hx2:az x.op=2) (hx111:x.op.toNat≠111) (hlk:x.op.toNat=99→0≤cE im.classes im.bodies x.b 5 x.a) (ta tc tt:UInt8) (u v:V) (hu:VT im.classes s.heap ta u) (hv':VT im.classes s.heap tc v) (hnt:br im.classes im.sigs lo x [ta,tc]=some tt) (pl pn pc:Nat) (pa:Option Addr):
  Calls Tryz.prog 156 #[.pointer (some ⟨be,0,none⟩),.pointer (some ⟨bf,0,none⟩),itN x pa pl pn pc,aG u,aG v] w (ReV P w0 w be bw tx inp bl lv (eH im (fun b' l'=>bn im inp f b' (d+1) 0 l' s) d x u v l s)):=by
 have hW:=hR.wf;have a0:=hW.nc;have b0:=hs.cap;have h4:s.heap.length≤4000:=by omega
 have a7:arith x.op.toNat=true∨x.op.toNat=101∨x.op.toNat=112∨x.op.toNat=99∨x.op.toNat=44:=by
  unfold az at hx2
  split at hx2
  ·omega
  ·split at hx2
   ·rename_i h3;simp[arith]at h3⊢;omega
   ·split at hx2<;>omega
 have b3:58≤x.op.toNat∨x.op.toNat<48:=by
  rcases a7 with h1|h1|h1|h1|h1
  ·simp[Sp.arith]at h1;omega
  ·omega
  ·omega
  ·omega
  ·omega
 obtain⟨e1,e2,e3⟩:=eS (x:=x) b3;unfold itN;rw[e1,e2];rcases a7 with h1|h1|h1|h1|h1
 ·have b4:x.op.toNat≠44∧x.op.toNat≠101∧x.op.toNat≠99∧x.op.toNat≠112∧x.op.toNat≠120∧x.op.toNat≠105∧x.op.toNat≠108∧x.op.toNat≠115∧(x.op.toNat=43∨x.op.toNat=45∨x.op.toNat=42∨x.op.toNat=60∨x.op.toNat=61∨x.op.toNat=47):=by
   simp[Sp.arith]at h1;omega
  obtain⟨n1,n2,n3,n4,n5,n6,n8,n9,n7⟩:=b4;rw[show eH im (fun b' l'=>bn im inp f b' (d+1) 0 l' s) d x u v l s=cX x.op.toNat u.N v.N l s from by unfold eH;rw[if_neg n1,if_neg n2,if_neg n3,if_neg n4]]
  have hf:dJ im.classes [ta,tc] [105,105]=true:=by
   simp[br,cH,h1,n2,n5,n1,n6,hx111]at hnt;simpa using hnt.1
  obtain⟨q1,q2⟩:=si hf;obtain⟨a,rfl,a1,a2⟩:=(hu.sub hW.cls a0 hs.ht (t':=105) q1 (by decide)).int (by decide);obtain⟨b,rfl,b1,b2⟩:=(hv'.sub hW.cls a0 hs.ht (t':=105) q2 (by decide)).int (by decide);exact dx h (.i a) (.i b) pl x.op.toNat x.b pn pc _ pa _ n1 n8 n9 n3 (fun X hX=>l8 (h.grown hX) (qU _ _ _ _ _) (Bc (h.grown hX).wq x.op.toNat n7 a b a1 a2 b1 b2 pl x.b pn pc _ pa))
 ·rw[h1,show eH im (fun b' l'=>bn im inp f b' (d+1) 0 l' s) d x u v l s= .ok (if u=v then .i 1 else .i 0) l s from by unfold eH;rw[if_neg (by omega),if_pos h1]];simp[br,cH,bE,Sp.arith,h1]at hnt
  have hi: ∀{t:UInt8} {u:V},VT im.classes s.heap t u→isR t=true→(∃n,u= .i n)→False:=fun hv hr ⟨n,hn⟩=>by
   subst hn;rcases hv.ref hr with h| ⟨_,_,h,_⟩<;>cases h
  exact dx h u v pl 101 x.b pn pc _ pa _ (by decide) (by decide) (by decide) (by decide) (fun X hX=>l8 (h.grown hX) ⟨rfl,rfl⟩ (Ba (h.grown hX).wq u v (CD (hi hu hnt.1.1) (hi hv' hnt.1.2)) pl x.b pn pc _ pa))
 ·have a5:=hx.cls (by omega);have a3:=hx.fld (by omega);simp[br,cH,bE,Sp.arith,h1]at hnt;obtain⟨hf,_⟩:=hnt;obtain⟨hC,a6⟩:=dC (a:=x.a) (by omega);obtain⟨q1,q2⟩:=si (by simpa using hf);have a4:=hu.sub hW.cls a0 hs.ht (t':=cL x.a) q1 (by have:=bL.1 hC;omega);rcases a4.ref (bR hC)with rfl| ⟨k,ob,rfl,hk,_,a8⟩
  ·rw[h1,show eH im (fun b' l'=>bn im inp f b' (d+1) 0 l' s) d x .z v l s= .bad 6 s.out from by unfold eH;simp[h1]];exact dx h .z v pl 112 x.b pn pc _ pa _ (by decide) (by decide) (by decide) (by decide) (fun X hX=>l8 (h.grown hX) trivial (zq (h.grown hX).wq h4 v pl x.b pn pc _ pa))
  ·rw[a6]at a8;obtain⟨g1,g2⟩:=lw hR hs a5 a3 hk a8;rw[h1,show eH im (fun b' l'=>bn im inp f b' (d+1) 0 l' s) d x (.o k) v l s= .ok (.i 0) l (s.put k x.b v)from by unfold eH;simp[h1]];exact dx h (.o k) v pl 112 x.b pn pc _ pa _ (by decide) (by decide) (by decide) (by decide) (fun X hX=>l8 (h.grown hX) ⟨rfl,rfl⟩ (zt (h.grown hX).wq h4 hk v pl x.b pn pc _ pa g1))
 ·have a5:=hx.cls (by omega);have a3:=hx.sig h1;simp[br,cH,bE,Sp.arith,h1]at hnt;obtain⟨hf,_⟩:=hnt;obtain⟨hC,a6⟩:=dC (a:=x.a) (by omega);obtain⟨q1,q2⟩:=si (by simpa using hf);have a4:=hu.sub hW.cls a0 hs.ht (t':=cL x.a) q1 (by have:=bL.1 hC;omega);have b5:=hv'.sub hW.cls a0 hs.ht (t':=ia im.sigs x.b) q2 (gW (yF hR a3).1);rw[h1,show eH im (fun b' l'=>bn im inp f b' (d+1) 0 l' s) d x u v l s=og im inp f d x u v l s from by unfold eH og;rw[if_neg (by omega),if_neg (by omega),if_pos h1];cases u<;>rfl];exact CB h u v pl x.b pn pc _ pa _ (fun X hX=>xD IH (h.grown hX) (hF.grown hX) hT hR hs hsf hd x a5 a3 (hlk h1) u v a4 b5 pl pn pc _ pa)
 ·rw[h1,show eH im (fun b' l'=>bn im inp f b' (d+1) 0 l' s) d x u v l s= .ok v l s from by unfold eH;rw[if_pos h1]];exact xC h hF u v pl x.b pn pc _ pa
end
end
end Go.Proofs.YtpfkkmacakjmbaaGreatDoor
