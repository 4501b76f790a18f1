import Derived.Test.YtpfkkmacakjmbaaGreatDoorP34
import Derived.Test.YtpfkkmacakjmbaaGreatDoorP31
set_option maxRecDepth 100000
set_option maxHeartbeats 6400000
set_option linter.all false
namespace Go.Proofs.YtpfkkmacakjmbaaGreatDoor
open Proofs.Tryz
section
open Go Go.RowKit Sp
attribute [local go_sem ↓] dG dH
def gR (F:List Nat) (j:Nat):List Nat:=if j∈F then F else F++ [j]
theorem zF (L:List Nat): ∀(vs:List V) (G:List Nat),(cM vs).foldl gR (L++G)=L++vs.foldl (pN L) G:=by
 intro vs
 induction vs with
 |nil=>intro G;rfl
 |cons u vs ih=>
  intro G
  cases u with
  |i n=>exact ih G
  |z=>exact ih G
  |o k=>
   show(cM vs).foldl gR (gR (L++G) k)=L++vs.foldl (pN L) (pN L G (.o k))
   unfold gR pN
   by_cases hk:k∈L++G
   .simp only[if_pos hk];exact ih G
   .simp only[if_neg hk];rw[List.append_assoc];exact ih (G++ [k])
theorem qo (L:List Nat) (vs:List V):(cM vs).foldl gR L=L++ul L vs:=by
 have:=zF L vs [];simpa[ul]using this
theorem sP {l F:List Nat}:(l.foldl gR F).length<=F.length+l.length:=by
 induction l generalizing F with
 |nil=>simp
 |cons j l ih=>
  have h1:(gR F j).length<=F.length+1:=by unfold gR;split<;>simp
  have:=ih (F:=gR F j);simp only[List.foldl_cons,List.length_cons];omega
theorem zG {α β:Type} {f:β->α->β} {l:List α} {k:Nat} {x:α} {b:β} (h:l[k]?=some x):(l.take (k+1)).foldl f b=f ((l.take k).foldl f b) x:=by
 obtain⟨hk,he⟩:=bC h;rw[iM hk,List.foldl_append,he]
 rfl
def lw (w:World) (g n:Nat) (F:List Nat):Prop:=w.heap[g]?=some (.cells ((List.range n).map (λj=>Value.bool (decide (j∈F)))).toArray 4)
theorem lw.at {w:World} {g n:Nat} {F:List Nat} (h:lw w g n F) {j:Nat} (hj:j<n):w.cell? ⟨g,j,none⟩=some (.bool (decide (j∈F)))/\w.frozen? ⟨g,j,none⟩=false:=by
 refine⟨?_,b7 w g j _ _ h⟩;rw[aX w g j _ _ (0,0) h];simp[hj]
theorem lw.set {w:World} {g n:Nat} {F:List Nat} (h:lw w g n F) {j:Nat} (hj:j<n):lw (w.setCell ⟨g,j,none⟩ (.bool true)) g n (F++ [j]):=by
 unfold lw;rw[bG w g j _ _ (.bool true) h]
 congr 2
 apply Array.ext
 .simp
 .intro i h1 h2;simp at h1 h2⊢;rw[List.getElem_set]
  by_cases e:j=i
  .subst e;simp
  .simp[e];exact λe2=>absurd e2.symm e
theorem lw.but {F:Nat->Prop} {w w':World} {g n:Nat} {L:List Nat} (h:lw w g n L) (hb:But F w w') (hf: ¬F g):lw w' g n L:=(hb.block g (ae h) hf).trans h
theorem CG (n:Nat) (hn:n<=5000) (w:World):(Instr.makeSlice 179 (.int .i64 (n:Int)) (.int .i64 (n:Int))).run prog w= .ok (.slice (some ⟨w.heap.size,0,none⟩) n n) (w.alloc (.cells (ip n) 4)):=by
 have a0:=pZ
 cases hi:prog.info? 4 with
 |none=>rw[hi]at a0;cases a0
 |some i=>
  rw[hi]at a0;simp only[Option.map_some,Option.some.injEq,Prod.mk.injEq]at a0;obtain⟨hz,hs,hb⟩:=a0;have:=run_make (P:=prog) w 179 4 i _ (by kernel_rfl) hi hz .i64 .i64 n n (by omega) (by omega) (by rw[hb];omega) (by omega);rw[this,hs];simp only[Int.toNat_natCast,Value.cells,Nat.mul_one];rw[uM]
  rfl
theorem CH (n:Nat):ip n=((List.range n).map (λj=>Value.bool (decide (j∈([]:List Nat))))).toArray:=by
 unfold ip
 congr 1
 rw[List.map_replicate]
 apply List.ext_getElem<;>simp
section
variable {K:Dk} {w0 w w':World} {val e:Int} {hv fv:Value} {fo:List Value} {s:Ev} {ds:List Fd} {base:Nat} {L:List (Nat×List St)} {T:de}
structure nY (w wr:World) (gS n:Nat) (ao:Option Addr) (cap:Nat) (F:List Nat):Prop where
 but:B_ w wr
 seen:lw wr gS n F
 row:wr.ownsRow w.heap.size 3 1 (.slice ao F.length cap) F.length (dD F)
 ge:w.heap.size<=gS
theorem nY.new {wr wr':World} {gS n cap:Nat} {ao:Option Addr} {F:List Nat} (h:nY w wr gS n ao cap F) (hB:B_ wr wr'):nY w wr' gS n ao cap F:=
 ⟨h.but.trans hB,h.seen.but hB (λh=>h),aj h.row hB (λ_ _ h=>h),h.ge⟩
theorem nY.off {wr:World} {gS n cap:Nat} {ao:Option Addr} {F:List Nat} (h:nY w wr gS n ao cap F):(Value.slice ao F.length cap).ownBlock≠some gS:=aL h.row h.seen (by decide)
theorem nY.more {wr w2:World} {gS n cap gg cap3:Nat} {ao:Option Addr} {F:List Nat} {j:Nat} (h:nY w wr gS n ao cap F) (hj:j<n) (ho:w2.ownsRow w.heap.size 3 1 (.slice (some ⟨gg,0,none⟩) (F++ [j]).length cap3) (F++ [j]).length (dD (F++ [j]))) (hB:But (λk=>(Value.slice ao F.length cap).ownBlock=some k) (wr.setCell ⟨gS,j,none⟩ (.bool true)) w2):nY w w2 gS n (some ⟨gg,0,none⟩) cap3 (F++ [j]):=
 ⟨(h.but.next (au wr gS j (.bool true)) (λk hk e=>by have:=h.ge;omega)).next hB (λk hk e=>by have:=ay h.row k e;omega),(h.seen.set hj).but hB h.off,ho,h.ge⟩
theorem Bx {sl:Fm->List V} (h:DmQ K w0 w val e hv fv fo s ds) (hRT: ∀Y,B_ w Y-> ∀d∈ds,Calls prog 225 #[.pointer (some ⟨K.mb,0,none⟩),.agg #[.int .i64 d.q,.int .i64 d.pc,d.sv,d.lv]] Y λen w'=>B_ Y w'/\ ∃v,en= .returned v/\w'.ownsRow Y.heap.size 3 1 v (cM (sl d.fm)).length (dD (cM (sl d.fm)))) (hfs: ∀d∈ds,(sl d.fm).length<=2000/\ ∀u∈sl d.fm,ig s.heap.length u) (h12:ds.length<=12) (cs:List bV) (hob:nW cs s.heap) (h4:s.heap.length<=4000):
  Calls prog 179 #[.pointer (some ⟨K.mb,0,none⟩)] w λen w'=>en= .returned (.int .i64 (md s.heap (λk=>V.o k∈ds.flatMap (λd=>sl d.fm))))/\B_ w w':=by
 obtain⟨RS,f8⟩: ∃RS,md s.heap (λk=>V.o k∈ds.flatMap (λd=>sl d.fm))=RS:=⟨_,rfl⟩;rw[f8];have HR:=hid f8;have HH:=hid h;have h9:=hid hfs;have e9:=hid hRT;have i0:=hid hob;obtain⟨_,_,c2,c3,_⟩:=h.mc.cs;have h5:=h.lt;obtain⟨ah,ch,b6⟩:=aw h.hp;obtain⟨af,cf,g3⟩:=aw h.fr;have o3:=hid b6;have k9:=hid g3;rw[b6]at c2;rw[g3]at c3;have n4:=CG s.heap.length (by omega)
 have h0:nY w (w.alloc (.cells (ip s.heap.length) 4)) w.heap.size s.heap.length none 0 []:=
  ⟨ag _ _ _,by unfold lw;rw[aO,CH],df _ _ _ _,b8 _⟩
 clear f8 h hfs hRT hob b6 g3
 go_in
 go_wp2_with fail
 go_loopg [4,5,6,7] ds.length (λmm vt is v6 v7 wr=> ∃(ao:Option Addr) (cap i:Nat) (F:List Nat),vt= .slice ao F.length cap/\is= .int .i64 i/\i<=ds.length/\i+mm<=ds.length/\ds.length<=i+mm/\F.length<=2000*i/\nY w wr w.heap.size s.heap.length ao cap F/\Hid (F=(cM ((ds.take i).flatMap λd=>sl d.fm)).foldl gR []))
 case atStart=>exact⟨none,0,0,[],rfl,rfl,by omega,by omega,by omega,by simp,h0,rfl⟩
 case round=>
  clear h0 n4;obtain⟨ao,cap,i,F,rfl,rfl,g5,j0,j1,m0,hQ,HF⟩:=hrel;clear j0;have d2:=hQ.but.kc c2 h5;have d3:=hQ.but.kc c3 h5;have c9:K.mb<wr.heap.size:=bq h5 hQ.but.size
  by_cases hlt:i<ds.length
  .obtain⟨d,hd⟩: ∃d,ds[i]?=some d:=⟨_,aH hlt⟩;have g1:=bp hd;obtain⟨l1,l4⟩:=h9.out d g1;have a8:=HH.out.new hQ.but;have r1:=a8.rw.row (1,i) d.sv d.zx (by simp[cU,hd]);have r2:=a8.rw.row (2,i) d.lv d.loc (by simp[cU,hd]);have e7:=hid (e9.out wr hQ.but d g1);have g2:=a8.fr;rw[k9.out]at g2;obtain⟨gf,rfl,i7,_,a0⟩:=aF g2 (by omega);have q0:wr.cell? ⟨gf,i*4,none⟩=some (.int .i64 d.q):=a0 _ _ (eV (k:=0) hd (by omega));have q1:wr.cell? ⟨gf,i*4+1,none⟩=some (.int .i64 d.pc):=a0 _ _ (eV (k:=1) hd (by omega));have q2:wr.cell? ⟨gf,i*4+2,none⟩=some d.sv:=a0 _ _ (eV (k:=2) hd (by omega));have q3:wr.cell? ⟨gf,i*4+3,none⟩=some d.lv:=a0 _ _ (eV (k:=3) hd (by omega))
   obtain⟨a1,c1,e1⟩:=aw r1;obtain⟨a2,o4,e2⟩:=aw r2;rw[e1]at q2 e7;rw[e2]at q3 e7;have e6:Hid (∀j∈cM (sl d.fm),j<s.heap.length):=λj hj=>(l4 _ ((Bv _ j).1 hj)).lt
   have p0:(cM (sl d.fm)).length<=2000:=by
    have:=nC (sl d.fm);omega
   have l3:Hid (cM ((ds.take (i+1)).flatMap λd=>sl d.fm)=cM ((ds.take i).flatMap λd=>sl d.fm)++cM (sl d.fm)):=by
    show _=_
    obtain⟨hk,he⟩:=bC hd;rw[iM hk,List.flatMap_append,vh,he];simp
   generalize hl:cM (sl d.fm)=l at*;have g6:(i:Int)<(ds.length:Int):=by omega
   have n8:=er ((i:Int)+1) (by omega) (by omega);clear hl a0 g2 r1 r2 a8 l1 l4 e1 e2 hd g1;go_wp2_with fail;refine e7.out.mono ?_;rintro en w1 ⟨i3,lv,rfl,e8⟩;obtain⟨al,cl,rfl⟩:=aw e8;have i5:=hQ.new i3
   have j7: ∀g,(Value.slice ao F.length cap).ownBlock=some g->(Value.slice al l.length cl).ownBlock≠some g:=λg hg hg'=>by
    have:=aW hQ.row g hg;have:=ay e8 g hg';omega
   clear e7 q0 q1 q2 q3 d2 d3 hQ i3 i7 c9;generalize wr.heap.size=bo at*;clear wr;go_wp2_with fail
   go_loopg [4,7] l.length (λmm vt is wx=> ∃(ao:Option Addr) (cap k:Nat) (G:List Nat),vt= .slice ao G.length cap/\is= .int .i64 k/\k<=l.length/\k+mm<=l.length/\l.length<=k+mm/\nY w wx w.heap.size s.heap.length ao cap G/\wx.ownsRow bo 3 1 (.slice al l.length cl) l.length (dD l)/\Hid (∀g,(Value.slice ao G.length cap).ownBlock=some g->(Value.slice al l.length cl).ownBlock≠some g)/\Hid (G=(l.take k).foldl gR F))
   case atStart=>exact⟨ao,cap,0,F,rfl,rfl,by omega,by omega,by omega,i5,e8,j7,rfl⟩
   case round=>
    clear i5 e8 j7;obtain⟨ao,cap,k,G,rfl,rfl,n2,g7,n3,hQ,hO,HS,HG⟩:=hrel;clear g7
    by_cases hkl:k<l.length
    .obtain⟨j,hj⟩: ∃j,l[k]?=some j:=⟨_,aH hkl⟩;have c7:=e6.out j (bp hj);obtain⟨gl,r1,o6,_,a0⟩:=aF hO (by omega);subst r1;have q0:wr.cell? ⟨gl,k,none⟩=some (.int .i64 j):=a0 _ _ (by simp[dD,hj]);obtain⟨s0,z0⟩:=hQ.seen.at c7;have m4:=ae hQ.seen;have n5: ¬w.heap.size=gl:=λe=>aL hO hQ.seen (by decide) (by rw[e];rfl)
     have n6: ¬gl=w.heap.size:=λe=>n5 e.symm
     have a7:Hid ((l.take (k+1)).foldl gR F=gR G j):=by show _=_;rw[zG hj,HG.out]
     have i4:G.length<=F.length+k:=by
      rw[HG.out];have:=sP (l:=l.take k) (F:=F);rw[List.length_take]at this;omega
     have h3:(k:Int)<(l.length:Int):=by omega
     have j3:(j:Int)<(s.heap.length:Int):=by omega
     have n9:=er ((k:Int)+1) (by omega) (by omega);have o2:=hQ.but.size;clear a0 hj HG
     by_cases hin:j∈G
     .simp only[hin,decide_true]at s0;have a4:Hid (G=(l.take (k+1)).foldl gR F):=by show _=_;rw[a7.out,gR,if_pos hin]
      clear a7 hin;go_wp2_with fail
      go_roundg (l.length-(k+1))
      case measure=>omega
      case rel=>exact⟨ao,cap,k+1,G,rfl,by simp,by omega,by omega,by omega,hQ,hO,HS,a4⟩
     .simp only[hin,decide_false]at s0;have a4:Hid (G++ [j]=(l.take (k+1)).foldl gR F):=by show _=_;rw[a7.out,gR,if_neg hin]
      have e3:=aj hQ.row (au wr w.heap.size j (.bool true)) (λg hg e=>hQ.off (e▸hg));have f5:=aj hO (au wr w.heap.size j (.bool true)) (λg hg e=>aL hO hQ.seen (by decide) (e▸hg));clear a7 hin;go_wp2_with (at_builtin;refine eI rfl _ _ rfl (wr.setCell ⟨w.heap.size,j,none⟩ (.bool true)) w.heap.size (.slice ao G.length cap) G j rfl wr.heap.size (by simp) rfl (by exact e3) (by omega) (by simp;omega) ?_);intro gg cap3 w2 a3 b5 b1;have f6:=hQ.more (gg:=gg) (cap3:=cap3) c7 (by rw[aZ];exact a3) b5;have m1:=aj f5 b5 (λg hg e=>HS.out g e hg)
      have l6:Hid (∀g,(Value.slice (some ⟨gg,0,none⟩) (G++ [j]).length cap3).ownBlock=some g->(Value.slice (some ⟨gl,0,none⟩) l.length cl).ownBlock≠some g):=λg hg=>by
       simp only[Value.ownBlock,Option.some.injEq]at hg;subst hg;obtain b1|b1:=b1
       .exact HS.out _ b1
       .intro e;have:=aW f5 _ e;simp only[bI]at this b1;omega
      clear b5 b1 a3 hQ hO f5 e3;go_wp2_with fail
      go_roundg (l.length-(k+1))
      case measure=>omega
      case rel=>exact⟨some ⟨gg,0,none⟩,cap3,k+1,G++ [j],by rw[aZ];rfl,by simp,by omega,by omega,by omega,f6,m1,l6,a4⟩
    .have h3: ¬(k:Int)<(l.length:Int):=by omega
     have hG:G=(cM ((ds.take (i+1)).flatMap λd=>sl d.fm)).foldl gR []:=by
      rw[HG.out,l3.out,List.foldl_append,<-HF.out,List.take_of_length_le (by omega)]
     have b4:=hid hG
     have i4:G.length<=F.length+l.length:=by
      rw[HG.out,List.take_of_length_le (by omega)];exact sP
     clear hG HG HS hO;go_wp2_with fail
     go_roundg (ds.length-(i+1))
     case measure=>omega
     case rel=>exact⟨ao,cap,i+1,G,rfl,by simp,by omega,by omega,by omega,by omega,hQ,b4⟩
  .have j2:ds.take i=ds:=List.take_of_length_le (by omega);have hF:=HF.out;rw[j2,qo,List.nil_append]at hF
   have e6:Hid (∀u∈ds.flatMap (λd=>sl d.fm),ig s.heap.length u):=λu hu=>by
    obtain⟨d,hd,hu⟩:=List.mem_flatMap.1 hu;exact(h9.out d hd).2 u hu
   have f2:=hid (pQ e6.out);rw[<-hF]at f2;have l5:=hid HR.out;generalize ds.flatMap (λd=>sl d.fm)=VS at*;have g6: ¬(i:Int)<(ds.length:Int):=by omega
   clear hF HF e6 j2 HR g5 j1 m0;go_wp2_with fail
   go_loopg [4,8,9,10,11,12] s.heap.length (λmm vt nv is v10 v11 v12 wx=> ∃(ao:Option Addr) (cap i:Nat) (F:List Nat),vt= .slice ao F.length cap/\nv= .int .i64 ((F.take i).map (kH s.heap)).sum/\is= .int .i64 i/\i<=F.length/\i+mm<=s.heap.length/\s.heap.length<=i+mm/\nY w wx w.heap.size s.heap.length ao cap F/\Hid (un s.heap VS i F))
   case atStart=>exact⟨ao,cap,0,F,rfl,by simp,rfl,by omega,by omega,by omega,hQ,f2⟩
   case round=>
    clear hQ f2 d2 d3 c9;obtain⟨ao,cap,i,F,rfl,rfl,rfl,g5,j0,j1,hQ,HK⟩:=hrel;have o5:=m6 HK.out;have b3:=wL (kH s.heap) 101 (u4 i0.out) (F.take i);have k3:(F.take i).length=i:=by rw[List.length_take];omega
    by_cases hlt:i<F.length
    .obtain⟨j,hj⟩: ∃j,F[i]?=some j:=⟨_,aH hlt⟩;have n1:=HK.out.lt j (bp hj);obtain⟨o,ho⟩: ∃o,s.heap[j]?=some o:=⟨_,aH n1⟩;have a8:=HH.out.new hQ.but;obtain⟨gh,chh,vf,b6,m3,g4,x0,x1,a5⟩:=a8.obj ho;obtain⟨_,p2,j5⟩:=i0.out o (bp ho);have d2:=a8.mc.cs.2.2.1;rw[b6]at d2;have c9:=a8.lt;have i6:kH s.heap j=1+o.fs.length:=by unfold kH;rw[ho];rfl
     have i2:Hid (∀G,((((F++G).take (i+1)).map (kH s.heap)).sum=((F.take i).map (kH s.heap)).sum+(1+o.fs.length))):=λG=>by
      rw[List.take_append_of_le_length (by omega),iM hlt,List.map_append,List.sum_append];have:F[i]=j:=(bC hj).2;rw[this,List.map_cons,List.map_nil,List.sum_cons,List.sum_nil,i6];omega
     have e5:=hid (rg HK.out hj ho j5);rw[<-qo]at e5;obtain⟨SM,g0⟩: ∃SM,((F.take i).map (kH s.heap)).sum=SM:=⟨_,rfl⟩;rw[g0]at b3 i2;rw[g0];rw[k3]at b3;clear g0 i6;obtain⟨aq,cq,e1⟩:=aw a5;rw[e1]at x1 a5;obtain⟨gt,r1,k0,_,a0⟩:=aF hQ.row (by omega);subst r1;have q0:wr.cell? ⟨gt,i,none⟩=some (.int .i64 j):=a0 _ _ (by simp[dD,hj]);have g6:(i:Int)<(F.length:Int):=by omega
     have j3:(j:Int)<(s.heap.length:Int):=by omega
     have p4:=er ((SM:Int)+1) (by omega) (by omega);have o0:=er ((SM:Int)+1+(o.fs.length:Int)) (by omega) (by omega);have n8:=er ((i:Int)+1) (by omega) (by omega);have HQ:=hid hQ;have i1:=hid a5;have p5:=hQ.but.size;clear a0 hj a8 b6 m3 b3 k3 HK hQ a5 e1 ho;generalize p1:s.heap.length=nh at*;go_wp2_with fail;refine aI (B_ wr) 11 ?_;have hS:B_ wr wr.drew:=aD _ _
     iterate 10 (refine aQ (v:=?_) rfl hS ?_ ?_;rotate_left;(focus (intro wS h;have Q0:=(h.kc d2 c9);have Q1:=(h.kc q0 k0);have Q2:=(h.kc x0 g4);have Q3:=(h.kc x1 g4);clear h;go_simp;try rfl));dsimp only[Act.put];try simp only[cH])
     refine az rfl ?_;intro KS hKS;go_simp;refine hKS.out _ _ (λ_=>(ag _ _ _).trans (aD _ _)) ?_;clear hKS KS;refine az rfl ?_;intro KS hKS;go_simp;refine hKS.out _ _ nofun ?_;clear hKS KS;refine aR rfl ?_;obtain⟨X,hX⟩: ∃X,(wr.alloc (.cells #[.int .i64 o.cls,.slice aq o.fs.length cq] 265)).drew=X:=⟨_,rfl⟩;have f3:B_ wr X:=by rw[<-hX];exact(ag _ _ _).trans (aD _ _)
     have d6:X.heap[wr.heap.size]?=some (.cells #[.int .i64 o.cls,.slice aq o.fs.length cq] 265):=by
      rw[<-hX];exact((aD (λ_=>False) _).block _ (by simp) (λh=>h)).trans (aO wr _)
     rw[hX];have f7:=HQ.out.new f3;have e0:=aj i1.out f3 (λ_ _ h=>h);clear hX f3 hS d2 q0 x0 x1 k0 g4 c9 HQ i1 hlt g5;generalize m2:wr.heap.size=bo at*;have h6:=ae d6;have j4:=aX X _ 1 _ _ (0,0) d6;simp at j4;have m5: ¬w.heap.size=bo:=λe=>cE f7.seen d6 (by decide) e
     clear m2;clear wr;go_wp2_with fail
     go_loopg [4,11,12] o.fs.length (λmm vt is v12 wx=> ∃(ao:Option Addr) (cap k:Nat) (G:List Nat),vt= .slice ao G.length cap/\is= .int .i64 k/\k<=o.fs.length/\k+mm<=o.fs.length/\o.fs.length<=k+mm/\nY w wx w.heap.size nh ao cap G/\wx.heap[bo]?=some (.cells #[.int .i64 o.cls,.slice aq o.fs.length cq] 265)/\wx.ownsRow w0.heap.size 135 2 (.slice aq o.fs.length cq) o.fs.length (aV o.fs)/\Hid (G=(cM (o.fs.take k)).foldl gR F))
     case atStart=>exact⟨_,cap,0,F,rfl,rfl,by omega,by omega,by omega,f7,d6,e0,rfl⟩
     case round=>
      clear f7 d6 e0 j4 h6;obtain⟨ao,cap,k,G,rfl,rfl,n2,g7,n3,hQ,b2,a5,HG⟩:=hrel;clear g7;have o1:=aX wr _ 1 _ _ (0,0) b2;simp at o1;have a6:=ae b2
      have i4:G.length<=F.length+k:=by
       rw[HG.out];have h1:=sP (l:=cM (o.fs.take k)) (F:=F);have h2:=nC (o.fs.take k);rw[List.length_take]at h2;omega
      by_cases hkl:k<o.fs.length
      .obtain⟨u,hu⟩: ∃u,o.fs[k]?=some u:=⟨_,aH hkl⟩;have n7:=j5 u (bp hu);obtain⟨gf,r1,i7,_,a0⟩:=aF a5 (by omega);subst r1;have f0:wr.cell? ⟨gf,k*2,none⟩=some (.int .u8 u.K):=a0 _ _ (bK (k:=0) hu (by omega));have f1:wr.cell? ⟨gf,k*2+1,none⟩=some (.int .i64 u.N):=a0 _ _ (bK (k:=1) hu (by omega));have h3:(k:Int)<(o.fs.length:Int):=by omega
       have n9:=er ((k:Int)+1) (by omega) (by omega)
       have b9:Hid (cM (o.fs.take (k+1))=cM (o.fs.take k)++cM [u]):=by
        show _=_
        obtain⟨hk,he⟩:=bC hu;rw[iM hk,vh,he]
       clear a0 hu
       have skip:cM [u]=[]->Hid (G=(cM (o.fs.take (k+1))).foldl gR F):=λhe=>by
        show _=_
        rw[b9.out,he,List.append_nil];exact HG.out
       cases u with
       |i n=>
        have b4:=skip rfl;simp only[nA,nB]at f0 f1;clear skip b9 HG;go_wp2_with fail
        go_roundg (o.fs.length-(k+1))
        case measure=>omega
        case rel=>exact⟨ao,cap,k+1,G,rfl,by simp,by omega,by omega,by omega,hQ.new (ag _ _ _),((ag (λ_=>False) _ _).block _ a6 (λh=>h)).trans b2,aj a5 (ag (λ_=>False) _ _) (λ_ _ h=>h),b4⟩
       |z=>
        have b4:=skip rfl;simp only[va,vd]at f0 f1;clear skip b9 HG;go_wp2_with fail
        go_roundg (o.fs.length-(k+1))
        case measure=>omega
        case rel=>exact⟨ao,cap,k+1,G,rfl,by simp,by omega,by omega,by omega,hQ.new (ag _ _ _),((ag (λ_=>False) _ _).block _ a6 (λh=>h)).trans b2,aj a5 (ag (λ_=>False) _ _) (λ_ _ h=>h),b4⟩
       |o jj=>
        have c7:=n7.lt
        have a7:Hid ((cM (o.fs.take (k+1))).foldl gR F=gR G jj):=by
         show _=_
         rw[b9.out,List.foldl_append,<-HG.out]
         rfl
        simp only[ve,vg]at f0 f1;obtain⟨s0,z0⟩:=hQ.seen.at c7;have m4:=ae hQ.seen;have j3:(jj:Int)<(nh:Int):=by omega
        have o2:=hQ.but.size;clear skip b9 HG
        by_cases hin:jj∈G
        .simp only[hin,decide_true]at s0;have a4:Hid (G=(cM (o.fs.take (k+1))).foldl gR F):=by show _=_;rw[a7.out,gR,if_pos hin]
         clear a7 hin;go_wp2_with fail
         go_roundg (o.fs.length-(k+1))
         case measure=>omega
         case rel=>exact⟨ao,cap,k+1,G,rfl,by simp,by omega,by omega,by omega,hQ.new (ag _ _ _),((ag (λ_=>False) _ _).block _ a6 (λh=>h)).trans b2,aj a5 (ag (λ_=>False) _ _) (λ_ _ h=>h),a4⟩
        .simp only[hin,decide_false]at s0;have a4:Hid (G++ [jj]=(cM (o.fs.take (k+1))).foldl gR F):=by show _=_;rw[a7.out,gR,if_neg hin]
         have e3:=aj (aj hQ.row (au wr w.heap.size jj (.bool true)) (λg hg e=>hQ.off (e▸hg))) (ag (λ_=>False) _ (.cells #[.int .u8 111,.int .i64 jj] 135)) (λ_ _ h=>h);clear a7 hin;go_wp2_with (at_builtin;refine eI rfl _ _ rfl ((wr.setCell ⟨w.heap.size,jj,none⟩ (.bool true)).alloc (.cells #[.int .u8 111,.int .i64 jj] 135)) w.heap.size (.slice ao G.length cap) G jj rfl (wr.heap.size+1) (by simp) rfl (by exact e3) (by omega) (by simp;omega) ?_);intro gg cap3 w2 a3 b5 b1;have b0:But (λk=>(Value.slice ao G.length cap).ownBlock=some k) (wr.setCell ⟨w.heap.size,jj,none⟩ (.bool true)) w2:=(ag _ _ _).trans b5
         have f6:=hQ.more (gg:=gg) (cap3:=cap3) c7 (by rw[aZ];exact a3) b0;have h8:=(b0.block bo (by rw[bI];exact a6) (aL hQ.row b2 (by decide))).trans (((au wr w.heap.size jj (.bool true)).block bo a6 (λe=>m5 e.symm)).trans b2);have h7:=aj (aj a5 (au wr w.heap.size jj (.bool true)) (λg hg e=>aL a5 hQ.seen (by decide) (e▸hg))) b0 (λg hg e=>d7 a5 hQ.row (by decide) hg e);clear b5 b0 b1 a3 hQ b2 a5 e3;go_wp2_with fail
         go_roundg (o.fs.length-(k+1))
         case measure=>omega
         case rel=>exact⟨some ⟨gg,0,none⟩,cap3,k+1,G++ [jj],by rw[aZ];rfl,by simp,by omega,by omega,by omega,f6,h8,h7,a4⟩
      .have h3: ¬(k:Int)<(o.fs.length:Int):=by omega
       have hG:G=(cM o.fs).foldl gR F:=by rw[HG.out,List.take_of_length_le (by omega)]
       have b4:=hid hG;have f4:G=F++ul F o.fs:=by rw[hG,qo]
       have l0:=hid f4;rw[<-hG]at e5;have n0:i+1<=G.length:=by rw[f4,aZ];omega
       have p3:=m6 e5.out;clear hG HG f4;go_wp2_with fail
       go_roundg (nh-(i+1))
       case measure=>omega
       case rel=>exact⟨ao,cap,i+1,G,rfl,by rw[l0.out,i2.out];simp[Int.add_assoc],by simp,n0,by omega,by omega,hQ,e5⟩
    .have g6: ¬(i:Int)<(F.length:Int):=by omega
     have e4:((F.take i).map (kH s.heap)).sum=RS:=by rw[<-l5.out,uo HK.out (by omega),List.take_of_length_le (by omega)]
     rw[e4];clear e4;go_wp2_with fail;go_ret;exact⟨rfl,hQ.but⟩
end
theorem ru (bd:Bod) (vc vt:Value) (hvt: ∃ak n capk,vt= .slice ak n capk) (vs:List V) (ao:Option Addr) (cap:Nat) (w:World) (hl:bd.locals.length<=5) (hv:vs.length<=bd.locals.length) (base:Nat) (hs:w.ownsRow base 135 2 (.slice ao vs.length cap) vs.length (aV vs)):
  Calls prog 66 #[.agg #[.int .i64 bd.cls,.int .i64 bd.meth,.string ⟨bd.locals.toArray⟩,vt,S_],.slice ao vs.length cap] w λen w'=> ∃v,en= .returned v/\w'.ownsRow w.heap.size 135 2 v (bn bd vs).length (aV (bn bd vs))/\B_ w w':=by
 obtain⟨ak,n,capk,rfl⟩:=hvt;obtain⟨lo,d6⟩: ∃lo,bd.locals=lo:=⟨_,rfl⟩;have HL:Hid (bn bd vs=vs++(lo.drop vs.length).map dc):=by show _=_;unfold bn;rw[d6]
 obtain⟨nv,e0⟩: ∃nv,vs.length=nv:=⟨_,rfl⟩;have a7:=hid e0;rw[d6]at hl hv⊢;rw[e0]at hs hv⊢;clear d6 e0
 go_in
 go_wp2_with fail;obtain⟨W0,b2⟩: ∃W0,w.alloc (.cells #[.int .i64 bd.cls,.int .i64 bd.meth,.string ⟨lo.toArray⟩,.slice ak n capk,S_] 52)=W0:=⟨_,rfl⟩;have e5:W0.heap[w.heap.size]?=some (.cells #[.int .i64 bd.cls,.int .i64 bd.meth,.string ⟨lo.toArray⟩,.slice ak n capk,S_] 52):=by rw[<-b2];exact aO _ _
 have b4:B_ w W0:=by rw[<-b2];exact ag _ _ _
 rw[b2];clear b2;have e4:=aj hs b4 (λ_ _ h=>h)
 go_loopg [5,6] nv (λmm ls ks wr=> ∃(ap:Option Addr) (cp k:Nat) (L:List V),ls= .slice ap k cp/\ks= .int .i64 k/\k+mm<=nv/\nv<=k+mm/\wr.ownsRow W0.heap.size 135 2 (.slice ap k cp) k (aV L)/\B_ W0 wr/\Hid (L=vs.take k))
 case atStart=>exact⟨none,0,0,[],rfl,rfl,by omega,by omega,df _ _ _ _,But.refl _ _,rfl⟩
 case round=>
  obtain⟨ap,cp,k,L,rfl,rfl,e6,e7,a4,a2,a3⟩:=hrel;have b1:=a2.size
  by_cases hlt:k<nv
  .have c9:(k:Int)<(nv:Int):=by omega
   have a6:k<vs.length:=by rw[a7.out];exact hlt
   have b0:L.length=k:=by rw[a3.out];simp;omega
   have b3:=hid b0;obtain⟨u,hu⟩: ∃u,vs[k]=u:=⟨_,rfl⟩;have HT:Hid (L++ [u]=vs.take (k+1)):=by show _=_;rw[iM a6,hu,a3.out]
   obtain⟨g,rfl,f1,f2,a0⟩:=aF (aj e4 a2 (λ_ _ h=>h)) (by omega);have hx:vs[k]?=some u:=by rw[aH a6,hu]
   have q0:wr.cell? ⟨g,k*2,none⟩=some (.int .u8 u.K):=a0 _ _ (bK (k:=0) hx (by omega));have q1:wr.cell? ⟨g,k*2+1,none⟩=some (.int .i64 u.N):=a0 _ _ (bK (k:=1) hx (by omega));clear hu b0 a6 hx a0;go_wp2_with (at_builtin;refine gu rfl _ _ rfl wr W0.heap.size _ L k b3.out _ _ u rfl rfl rfl wr.heap.size rfl rfl (by exact a4) (by omega) (by omega) ?_);intro gg cap3 w2 a1 a8 c7;have b6:B_ W0 w2:=a2.next a8 (λk' hk' h=>by have:=aW a4 k' h;have:=ay a4 k' h;omega);clear a8 c7 q0 q1;go_wp2_with fail
   go_roundg (nv-(k+1))
   case measure=>omega
   case rel=>exact⟨_,cap3,k+1,L++ [u],by simp,by simp,by omega,by omega,a1,b6,HT⟩
  .have c9: ¬(k:Int)<(nv:Int):=by omega
   have e9:nv=k:=by omega
   subst e9;have e1:L=vs:=by rw[a3.out];exact List.take_of_length_le (by rw[a7.out];omega)
   rw[e1]at a4;clear e1 a3 L;go_wp2_with fail
   go_loopg [5,7] (lo.length-nv) (λmm ls ks wr=> ∃(ap:Option Addr) (cp k:Nat) (L:List V),ls= .slice ap k cp/\ks= .int .i64 k/\k+mm<=lo.length/\lo.length<=k+mm/\nv<=k/\wr.ownsRow W0.heap.size 135 2 (.slice ap k cp) k (aV L)/\B_ W0 wr/\Hid (L=vs++((lo.take k).drop nv).map dc))
   case atStart=>exact⟨_,_,nv,vs,rfl,rfl,by omega,by omega,by omega,a4,a2,by show _=_;rw[List.drop_eq_nil_of_le (by simp;omega)];simp⟩
   case round=>
    clear a4 a2 b1;obtain⟨ap,cp,k,L,rfl,rfl,e6,e7,f4,a4,a2,a3⟩:=hrel;have b1:=a2.size;have e2:=a2.kp e5;have g2:=ce2 e2;have f3:=ae e2;have e3:((⟨lo.toArray⟩:ByteArray).size:Int)=(lo.length:Int):=rfl
    by_cases hlt:k<lo.length
    .have c9:(k:Int)<(lo.length:Int):=by omega
     obtain⟨C,hC⟩: ∃C,lo[k]=C:=⟨_,rfl⟩;have kC: ∀h,(⟨lo.toArray⟩:ByteArray)[k]'h=C:=λh=>by rw[<-hC];exact yi lo _ hlt _
     have f5:k<(⟨lo.toArray⟩:ByteArray).size:=hlt;have b0:L.length=k:=by rw[a3.out];have:=a7.out;simp;omega
     have b3:=hid b0;obtain⟨u,hu⟩: ∃u,dc C=u:=⟨_,rfl⟩
     have HT:Hid (L++ [u]=vs++((lo.take (k+1)).drop nv).map dc):=by
      show _=_
      rw[iM hlt,hC,a3.out,<-hu,List.drop_append_of_le_length (by simp;omega)];simp
     have hp:=rh C wr;rw[hu]at hp;have HP:=hid hp;clear hC hu b0 hp;go_wp2_with fail;refine HP.out.mono ?_;rintro en w1 ⟨rfl,b5⟩;simp only[dK];have a5:=a2.trans b5;have f0:=a5.size;have b9:=aj a4 b5 (λ_ _ h=>h);go_wp2_with (at_builtin;refine gu rfl _ _ rfl (w1.alloc (.cells #[.int .u8 u.K,.int .i64 u.N] 135)) W0.heap.size _ L k b3.out _ _ u rfl rfl rfl (w1.heap.size+1) (by simp) rfl (aj b9 (ag (λ_=>False) _ _) (λ_ _ h=>h)) (by omega) (by simp;omega) ?_);intro gg cap3 w2 a1 a8 c7;have b6:B_ W0 w2:=(a5.trans (ag _ _ _)).next a8 (λk' hk' h=>by have:=ay b9 k' h;omega);clear a8 c7 b9 a5 b5 g2
     go_wp2_with fail
     go_roundg (lo.length-(k+1))
     case measure=>omega
     case rel=>exact⟨_,cap3,k+1,L++ [u],by simp,by simp,by omega,by omega,by omega,a1,b6,HT⟩
    .have c9: ¬(k:Int)<(lo.length:Int):=by omega
     go_wp2_with fail;go_ret;refine⟨_,rfl,?_,b4.trans a2⟩;have e8:k=lo.length:=by omega
     have e:bn bd vs=L:=by rw[HL.out,a3.out,e8,List.take_length,a7.out]
     rw[e,show L.length=k from by rw[a3.out];have:=a7.out;simp;omega];exact iI a4 b4.size
theorem By:(prog.info? 121).map (λi=>(i.zero,i.size,i.bytes))=some (some (.agg #[.int .i64 0,.int .i64 0,S_,S_]),4,64):=by kernel_rfl
theorem dX.body {w:World} {bi:Nat} {im:Img} (h:dX w bi im) {k:Nat} {b:Bod} (hk:im.zq[k]?=some b):
  ∃(g cap:Nat) (ak:Option Addr) (capk:Nat),w.cell? ⟨bi,2,none⟩=some (.slice (some ⟨g,0,none⟩) im.zq.length cap)/\(k:Int)<(im.zq.length:Int)/\bi<w.heap.size/\g<w.heap.size/\w.ownsRow 0 144 4 (.slice ak b.code.length capk) b.code.length (dB b.code)/\w.cell? ⟨g,k*5,none⟩=some (.int .i64 b.cls)/\w.cell? ⟨g,k*5+1,none⟩=some (.int .i64 b.meth)/\w.cell? ⟨g,k*5+2,none⟩=some (.string ⟨b.locals.toArray⟩)/\w.cell? ⟨g,k*5+3,none⟩=some (.slice ak b.code.length capk)/\w.cell? ⟨g,k*5+4,none⟩=some S_:=by
 obtain⟨v0,v1,v2,l,a4,hC,hS,hB,hl,a5⟩:=h;have b1:=(bC hk).1;have a7:l.length=im.zq.length:=by rw[<-hl];simp
 obtain⟨a2,a3,rfl⟩:=aw hB;obtain⟨g,rfl,a6,b0,a0⟩:=aF hB (by omega);have hx:=aH (show k<l.length by omega)
 have hb:l[k].1=b:=by
  have h1:(l.map (·.1))[k]?=im.zq[k]?:=by rw[hl]
  rw[cg,hx,hk]at h1;simpa using h1
 obtain⟨a1,a8⟩:=a5 _ (cN (show k<l.length by omega));rw[hb]at a1;obtain⟨ak,capk,hv⟩:=aw a1;have c2:=a4.c2;rw[a7]at c2;rw[hv]at a1;refine⟨g,a3,ak,capk,c2,by omega,a4.lt,a6,a1,?_,?_,?_,?_,?_⟩
 .rw[<-hb];exact a0 _ _ (jV hx)
 .rw[<-hb];exact a0 _ _ (jW hx)
 .rw[<-hb];exact a0 _ _ (mE hx)
 .rw[<-hv];exact a0 _ _ (mF hx)
 .rw[<-a8];exact a0 _ _ (mG hx)
def DW (K:Dk) (w0:World) (e:Int) (o:L_) (w':World):Prop:= ∃hv fv fo s ds,s.out=o/\DmQ K w0 w' 0 e hv fv fo s ds
section
variable {K:Dk} {w0 w w':World} {hv:Value} {fo:List Value} {s:Ev} {ds:List Fd} {d:Fd} {g cap:Nat} {x:Ins} {im:Img}
theorem CI (h:DmQ K w0 w 0 12 hv (.slice (some ⟨g,0,none⟩) (ds.length+1) cap) fo s (ds++ [d])) (h4:d.zx.length<=4000) (hl:2<=d.zx.length) (hv':fk d.zx= .z):
  Calls prog 111 #[.pointer (some ⟨K.mb,0,none⟩),.pointer (some ⟨g,ds.length*4,none⟩),br x] w λen w'=>en= .returned (.tuple #[])/\DW K w0 6 s.out w':=by
 have HP:=hid (λY (hY:B_ w Y)=>ky (h.new hY) h4 hl);have b0:=h.cs.1;have HO:=hid (λ(Y:World) fv ds (hM:DmQ K w0 Y 0 12 hv fv fo s ds)=>CC hM x.a);rw[hv']at HP;generalize bE d.zx=v at*;clear h hv';unfold br;simp only[dK,va,vd]at HP HO
 go_in
 go_wp2_with fail;refine(HP.out _ (ag _ _ _)).mono ?_;rintro en w1 ⟨rfl,a2,a1⟩;replace a1:=hid a1;have a8:=a2.size;simp at a8;have a7:=(a2.block w.heap.size (by simp) (by show¬w.heap.size=g;omega)).trans (aO w _);clear HP a2;go_wp2_with fail;refine(a1.out _ (ag _ _ _)).mono ?_;rintro en w2 ⟨rfl,a6,sv,hM⟩;have hk:=(a6.block w.heap.size (by simp;omega) (by show¬w.heap.size=g;omega)).trans (((ag (λ_=>False) _ _).block w.heap.size (by omega) (λh=>h)).trans a7);have k1:=aX w2 _ 1 _ _ (0,0) hk;simp at k1;have b2:=ae hk;have HM:=hid hM;clear a1 a6 hM hk a7;go_wp2_with fail;have a4:=HM.out.new (ag (λ_=>False) w2 (.cells #[.int .u8 122,.int .i64 0] 135))
 refine(HO.out _ _ _ a4).mono ?_;rintro en w3 ⟨rfl,a3⟩;have hi:=(a3.block w2.heap.size (by simp) (λh=>h)).trans (aO w2 _);have j0:=aX w3 _ 0 _ _ (0,0) hi;simp at j0;have b1:=ae hi;have a0:=a4.new a3;have c9:=a0.mc.cs.2.2.2.2.2.2.2.2.2;have z9:=a0.mc.fz 9;have b3:=a0.lt;have a5:=hid a0;clear HO HM a4 a3 hi a0;go_wp2_with fail;exact gK results111 rfl ⟨rfl,_,_,_,_,_,rfl,a5.out.own (val':=0) (e':=6) (s':=s) (au w3 K.mb 9 (.int .i64 6)) rfl (a5.out.mc.set9 6)⟩
theorem CJ (h:DmQ K w0 w 0 12 hv (.slice (some ⟨g,0,none⟩) (ds.length+1) cap) fo s (ds++ [d])) (h4:d.zx.length<=4000) (hl:2<=d.zx.length) (hI:dX w0 K.bi im) (hw:WfI im) {k:Nat} {ob:Ob} (hv':fk d.zx= .o k) (hk:s.heap[k]?=some ob) (hc:ob.cls<im.zz.length) (hu:bF im.zz 5 ob.cls x.a=true) (hh:s.heap.length<=4000) (h12:ds.length<=100) {b:Nat} {bd:Bod} (hfd:cY im.zz im.zq x.b 5 ob.cls=b) (hbd:im.zq[b]?=some bd) (hb2:2<=bd.locals.length):
  Calls prog 111 #[.pointer (some ⟨K.mb,0,none⟩),.pointer (some ⟨g,ds.length*4,none⟩),br x] w λen w'=>en= .returned (.tuple #[])/\((12<=ds.length+1/\DW K w0 10 s.out w')\/(¬12<=ds.length+1/\ ∃hv fv fo sv lv vl,DmQ K w0 w' 0 12 hv fv fo s ((ds++ [⟨d.q,d.pc,dC d.zx,d.loc,sv,lv⟩])++ [⟨b,0,[],bn bd [.o k,bE d.zx],S_,vl⟩]))):=by
 have HP:=hid (λY (hY:B_ w Y)=>ky (h.new hY) h4 hl);have j5:=h.cs.1;have HO:=hid (λ(Y:World) fv ds (hM:DmQ K w0 Y 0 12 hv fv fo s ds)=>CD hM hI hw.cls hk hc hh x.a);rw[hu]at HO;rw[hv']at HP;generalize bE d.zx=v at*;clear h hv' hu;unfold br;simp only[dK,ve,vg]at HP HO
 go_in
 go_wp2_with fail;refine(HP.out _ (ag _ _ _)).mono ?_;rintro en w1 ⟨rfl,e5,b6⟩;replace b6:=hid b6;have i5:=e5.size;simp at i5;have g2:=(e5.block w.heap.size (by simp) (by show¬w.heap.size=g;omega)).trans (aO w _);clear HP e5;go_wp2_with fail;refine(b6.out _ (ag _ _ _)).mono ?_;rintro en w2 ⟨rfl,e6,sv,hM⟩;have e0:=(e6.block w.heap.size (by simp;omega) (by show¬w.heap.size=g;omega)).trans (((ag (λ_=>False) _ _).block w.heap.size (by omega) (λh=>h)).trans g2);have e1:=(e6.block w1.heap.size (by simp) (by show¬w1.heap.size=g;omega)).trans (aO w1 _);have k1:=aX w2 _ 1 _ _ (0,0) e0;simp at k1;have d6:=ae e0
 have HM:=hid hM;clear b6 e6 hM g2;go_wp2_with fail;have hA:=ag (λ_=>False) w2 (.cells #[.int .u8 111,.int .i64 k] 135);have e8:=HM.out.new hA;refine(HO.out _ _ _ e8).mono ?_;rintro en w3 ⟨rfl,b1⟩;have hi:=(b1.block w2.heap.size (by simp) (λh=>h)).trans (aO w2 _);have a4:=((hA.trans b1).block w.heap.size d6 (λh=>h)).trans e0;have a1:=((hA.trans b1).block w1.heap.size (ae e1) (λh=>h)).trans e1;have a3:=e8.new b1;have i4:w1.heap.size<w2.heap.size:=ae e1;clear HO HM e8 b1 e0 e1 hA k1 d6;generalize w1.heap.size=bv at*;generalize w2.heap.size=bo at*;have j0:=aX w3 _ 0 _ _ (0,0) hi;have j1:=aX w3 _ 1 _ _ (0,0) hi
 have k2:=aX w3 _ 2 _ _ (0,0) a4;have v0:=aX w3 _ 0 _ _ (0,0) a1;have v1:=aX w3 _ 1 _ _ (0,0) a1;simp at j0 j1 k2 v0 v1;have a8:=ae hi;have d6:=ae a4;have b0:=ae a1;obtain⟨c0,_,c2,c3,_,_,_,_,_,c9⟩:=a3.mc.cs;have z9:=a3.mc.fz 9;have f5:=a3.lt;have b4:=hid a3
 by_cases hd:12<=ds.length+1
 .have h7:12<=(ds.length:Int)+1:=by omega
  clear a3 hi a4 a1;go_wp2_with fail;exact gK results111 rfl ⟨rfl,Or.inl ⟨hd,_,_,_,_,_,rfl,b4.out.own (val':=0) (e':=10) (s':=s) (au w3 K.mb 9 (.int .i64 10)) rfl (b4.out.mc.set9 10)⟩⟩
 .have h7: ¬12<=(ds.length:Int)+1:=by omega
  obtain⟨gh,ch,vf,rfl,_,h8,x0,_,_⟩:=a3.obj hk;obtain⟨gb,cb,ak,capk,e2,j4,e9,a2,_,f0,f1,f2,f3,f4⟩:=(hI.but a3.old).body hbd;have j7:(k:Int)<(s.heap.length:Int):=by have:=(bC hk).1;omega
  have e4:=hid (λn=>tT K.bi im ob.cls x.b (w3.drewN n) (hI.but (a3.old.trans (aK _ _ n))).hds hw.cls hw.nc hw.nb (by omega) (by omega));rw[hfd]at e4;have i1:=(hw.bod bd (bp hbd)).loc.1;generalize ob.cls=oc at*;have e3:=hid (And.intro hi a1);clear a3 hi a4 a1 hfd hc c9 z9;go_wp2_with fail
  go_quiet (exact Calls.quiet_of_same (e4.out _))
  obtain⟨X,hX⟩: ∃X,w3.drewN nq=X:=⟨_,rfl⟩;have a0:B_ w3 X:=by rw[<-hX];exact aK _ _ _
  rw[hX];have b5:=hid (b4.out.new a0);have h5:=(a0.block bo a8 (λh=>h)).trans e3.out.1;have h6:=(a0.block bv b0 (λh=>h)).trans e3.out.2;replace c0:=a0.kc c0 f5;replace e2:=a0.kc e2 e9;replace f0:=a0.kc f0 a2;replace f1:=a0.kc f1 a2;replace f2:=a0.kc f2 a2;replace f3:=a0.kc f3 a2;replace f4:=a0.kc f4 a2;replace j0:=a0.kc j0 a8;replace j1:=a0.kc j1 a8;replace v0:=a0.kc v0 b0;replace v1:=a0.kc v1 b0;have hz:=a0.size;replace f5:K.mb<X.heap.size:=by omega
  replace e9:K.bi<X.heap.size:=by omega
  replace a2:gb<X.heap.size:=by omega
  replace a8:bo<X.heap.size:=by omega
  replace b0:bv<X.heap.size:=by omega
  clear b4 e4 e3 hX a0 hz c2 c3 x0 h8 k2 d6 h5 h6;generalize g3:im.zq.length=nb at*;have j3:=hid g3;clear g3;have f6:=hid (λ(Y:World) ao base hs=>ru bd S_ (.slice ak bd.code.length capk) ⟨_,_,_,rfl⟩ [.o k,v] ao 2 Y i1 hb2 base hs);go_wp2_with fail;refine aI (B_ X) 14 ?_;have hS:B_ X X.drew:=aD _ _
  iterate 12 (refine aQ (v:=?_) rfl hS ?_ ?_;rotate_left;(focus (intro wS h;have q0:=(h.kc c0 f5);have q1:=(h.kc e2 e9);have q2:=(h.kc f0 a2);have q3:=(h.kc f1 a2);have q4:=(h.kc f2 a2);have q5:=(h.kc f3 a2);have q6:=(h.kc f4 a2);have q7:=(h.kc j0 a8);have q8:=(h.kc j1 a8);have q9:=(h.kc v0 b0);have k3:=(h.kc v1 b0);clear h;go_simp;try rfl));dsimp only[Act.put];try simp only[cH])
  refine az rfl ?_;intro KS hKS;go_simp;refine hKS.out _ _ (λ_=>(ag _ _ _).trans (aD _ _)) ?_;clear hKS KS c0 e2 f0 f1 f2 f3 f4 j0 j1 v0 v1;obtain⟨Y,hY⟩: ∃Y,(X.alloc (.cells #[.int .u8 111,.int .i64 k,.int .u8 v.K,.int .i64 v.N] 135)).drew=Y:=⟨_,rfl⟩;have b2:B_ X Y:=by rw[<-hY];exact(ag _ _ _).trans (aD _ _)
  have g5:Y.ownsRow X.heap.size 135 2 (.slice (some ⟨X.heap.size,0,none⟩) 2 2) 2 (aV [.o k,v]):=by
   refine⟨rfl,Or.inr ⟨X.heap.size,2,#[.int .u8 111,.int .i64 k,.int .u8 v.K,.int .i64 v.N],rfl,b8 _,?_,by omega,by unfold maxLen;omega,rfl,rfl⟩⟩;rw[<-hY];exact((aD (λ_=>False) _).block _ (by simp) (λh=>h)).trans (aO X _)
  rw[hY];clear hY hS;refine az rfl ?_;intro KS hKS;go_simp;refine(f6.out Y _ _ g5).mono ?_;rintro en w5 ⟨vl,rfl,b9,e7⟩;refine hKS.out _ _ (λ_=>b2.trans e7) ?_;clear hKS KS;refine az rfl ?_;intro KS hKS;go_simp;refine hKS.out _ _ nofun ?_;clear hKS KS;refine aR rfl ?_;obtain⟨al,cl,rfl⟩:=aw b9;have a5:=b5.out.new (b2.trans e7)
  have g6:Hid (∀g',(Value.slice al (bn bd [.o k,v]).length cl).ownBlock=some g'-> ∀a u l,cU s.heap fo (ds++ [⟨d.q,d.pc,dC d.zx,d.loc,sv,d.lv⟩]) a=some (u,l)->u.ownBlock≠some g'):=λg' hg' a u l ha hv=>by
   have:=ay b9 g' hg';have:=aW (b5.out.rw.row a u l ha) g' hv;have:=b2.size;omega
  have k0:=a5.old.size;have f8:=iI b9 (Nat.le_trans b5.out.old.size b2.size);clear f6 g5 b2 e7 b5 b9;have c3:=a5.mc.cs.2.2.2.1;have z3:=a5.mc.fz 3;have a7:=a5.lt;have g1:=a5.fr;have h0:=hid a5;have h2:=hid f8;obtain⟨i0,h9,i6,i7,j2⟩:=info_parts By;have g0:(ds++ [(⟨d.q,d.pc,dC d.zx,d.loc,sv,d.lv⟩:Fd)]).length=ds.length+1:=by simp
  rw[g0]at g1;have ab: ¬g=K.mb:=a5.cs.2.2.1;generalize f7:bn bd [.o k,v]=LL at*;have g7:=hid f7;clear a5 f8 f7;generalize g4:LL.length=nl at*;have h1:=hid g4;clear g4;go_wp2_with (at_builtin;refine wpList_append_lies _ rfl _ _ _ rfl w0.heap.size 121 i0 _ 4 64 (by kernel_rfl) h9 i6 i7 j2 rfl (by omega) _ (ds.length+1) (d9 (ds++ [⟨d.q,d.pc,dC d.zx,d.loc,sv,d.lv⟩])) rfl (g1.alloc _) ⟨w5.heap.size,0,none⟩ 1 1 [.int .i64 b,.int .i64 0,S_,.slice al nl cl] rfl rfl (fX (cs:=#[.int .i64 b,.int .i64 0,S_,.slice al nl cl]) (t:=121) (fr:=(0,0)) (aO w5 _)) (by simp[Value.oneCell']) (by omega) (by unfold maxLen;omega) (by omega) (by simp;omega) (w5.heap.size+1) (by simp) ?_)
  intro gg cap3 w6 b3 a6 h3 i2;have c7:But (λk'=>(Value.slice (some ⟨g,0,none⟩) (ds.length+1) cap).ownBlock=some k') w5 w6:=(ag _ _ _).trans (bc a6);have y0:=(c7.cell (p:=⟨K.mb,3,none⟩) a7 (λe=>ab (by simpa[Value.ownBlock]using e))).trans c3;have y1:=(c7.frozen (p:=⟨K.mb,3,none⟩) a7 (λe=>ab (by simpa[Value.ownBlock]using e))).trans z3;have i3:K.mb<w6.heap.size:=bq a7 c7.size;clear c3 z3 a6 h3;go_wp2_with fail;go_end0;rw[g7.out];refine⟨rfl,Or.inr ⟨hd,_,_,_,_,_,_,h0.out.call (q:=b) (vl:= .slice al nl cl) (l:=LL) (by rw[h1.out];exact h2.out) g6.out c7 ?_⟩⟩;rw[ik,g0];exact b3
end
end
end Go.Proofs.YtpfkkmacakjmbaaGreatDoor
