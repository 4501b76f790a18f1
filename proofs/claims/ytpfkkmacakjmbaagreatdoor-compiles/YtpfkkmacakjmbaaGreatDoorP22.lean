import Derived.Test.YtpfkkmacakjmbaaGreatDoorP21
import Derived.Deep.Cut
set_option maxRecDepth 100000
set_option maxHeartbeats 6400000
set_option linter.all false
namespace Go.Proofs.YtpfkkmacakjmbaaGreatDoor
open Proofs.Tryz
section
open Go Go.RowKit Sp
attribute [local go_sem ↓] eY eZ
def ld (P:Nat->Prop) (w0:World) (bw bi:Nat) (inp:ByteArray) (d:Nat) (lv:Value) (r:R) (en:Ending) (w':World):Prop:=match r with
 | .bad e o=>(∃a b:Int,en= .returned (.agg #[.int .u8 a,.int .i64 b]))/\bw<w'.heap.size/\ ∃(hv:Value) (r l:Int),WkB w' bw bi hv inp r l d o e
 | .ok v l s=>en= .returned (cW v)/\ ∃hv fv,StX P w0 w' bw bi inp d s lv l hv fv
abbrev FrD (P:Nat->Prop) (w0:World) (k:Nat):Prop:=w0.heap.size<=k/\ ¬P k
theorem re {P:Nat->Prop} {w0 w w':World} {bw bi d:Nat} {inp:ByteArray} {s:Ev} {lv hv:Value} {l:List V} {fv:List Value} (hst:StX P w0 w bw bi inp d s lv l hv fv) (h:But (· =bw) w w'):But (FrD P w0) w w':=h.mono (λk _ e=>by subst e;exact⟨hst.ge,hst.pw⟩)
theorem fg {F:Nat->Prop} {w w':World} (h:B_ w w'):But F w w':=h.mono (λ_ _ h=>h.elim)
theorem Ah (P:Nat->Prop) (w0 w:World) (bw bi d:Nat) (inp:ByteArray) (s:Ev) (lv hv:Value) (l:List V) (fv:List Value) (hst:StX P w0 w bw bi inp d s lv l hv fv) (op:Nat) (hop:op=43\/op=45\/op=42\/op=60\/op=61\/op=47) (a b:Int) (a1: -2147483648<=a) (a2:a<2147483648) (b1: -2147483648<=b) (b2:b<2147483648):
  Calls prog 188 #[.pointer (some ⟨bw,0,none⟩),.int .u8 op,.int .i64 a,.int .i64 b] w λen w'=>But (FrD P w0) w w'/\ld P w0 bw bi inp d lv (dB op a b l s) en w':=by
 have m:=hst.blt;have n:FrD P w0 bw:=⟨hst.ge,hst.pw⟩
 by_cases h47:op=47
 .subst h47
  by_cases h0:b=0
  .subst h0;rw[show dB 47 a 0 l s= .bad 7 s.out from by simp[dB]];have fz:=hst.wk.fz 7;have c7:=hst.wk.c7;have j:=hid hst.wk
   go_in
   go_wp2_with fail;exact cA (v:= .agg #[.int .u8 0,.int .i64 0]) (by simp[results,results188,go_sem]) rfl ⟨re hst ((aj _ _ _ _).trans (aa _ _ _)),⟨⟨0,0,rfl⟩,by simp[World.setCell];omega,hv,_,_,(j.out.set7 7).but (aa (λ_=>False) _ _) (λh=>h)⟩⟩
  .rw[show dB 47 a b l s= .ok (.i (w32 (Int.tdiv a b))) l s from by simp[dB,h0]];have k:(b==0)=false:=by simpa using h0
   obtain⟨q,f⟩: ∃q,Int.tdiv a b=q:=⟨_,rfl⟩;have p:q.natAbs<=a.natAbs:=by rw[<-f,Int.natAbs_tdiv];exact Nat.div_le_self _ _
   rw[f];have r:wrap64 q=q:=IntWalk.wrap64_in q ⟨by omega,by omega⟩
   go_in
   go_wp2_with fail;refine(jU _ (by omega) (by omega) _).mono ?_;rintro en wx ⟨rfl,c⟩;rw[c];clear c wx;go_wp2_with fail;exact cA (v:=cW (.i (w32 q))) (by simp[results,results188,go_sem,cW,V.K,V.N]) rfl ⟨fg (aa _ _ _),rfl,hv,fv,hst.new (aa _ _ _)⟩
 .rw[show dB op a b l s= .ok (.i (qi op a b)) l s from by simp[dB,h47]];have e:op=43\/op=45\/op=42\/op=60\/op=61:=by omega
  have ht:=tf op 47 (by omega);have g:=hid (λw=>yz op e a b a1 a2 b1 b2 w);clear hop e h47
  go_in
  go_wp2_with fail;refine(g.out _).mono ?_;rintro en wx ⟨rfl,c⟩;rw[c];clear c wx;go_wp2_with fail;exact cA (v:=cW (.i (qi op a b))) (by simp[results,results188,go_sem,cW,V.K,V.N]) rfl ⟨fg (aa _ _ _),rfl,hv,fv,hst.new (aa _ _ _)⟩
section
variable {fn:Func} {a:Act} {w0 w X:World} {c r bw bi d:Nat} {P P1:Nat->Prop} {inp:ByteArray} {s:Ev} {lv hv:Value} {l:List V} {fv:List Value}
theorem kA (hf:fn.results=#[.cell c 135]) (hd:a.defers=[]) (hc:a.tmps.getD c undef= .pointer (some ⟨r,0,none⟩)) (hs:StX P1 w0 X bw bi inp d s lv l hv fv) (hr:jz X r) (hr1:P1 r) (hr2:w.heap.size<=r) (h0:w0.heap.size<=w.heap.size) (hPP: ∀k,P k->P1 k) (hB:But (FrD P w0) w X) {v:V} {K N:Int} (hK:K=v.K) (hN:N=v.N):
  bodyPost prog fn (λen w'=>But (FrD P w0) w w'/\ld P w0 bw bi inp d lv (.ok v l s) en w') .ret a ((X.setCell ⟨r,0,none⟩ (.int .u8 K)).setCell ⟨r,1,none⟩ (.int .i64 N)):=by
 subst hK hN;refine kq hf hd hc (hr.put _ _) ⟨hB.next (ko _ _ _ _) (λk hk e=>by omega),rfl,hv,fv,(hs.tmp (ko _ _ _ _) (λk e=> ?_)).less hPP⟩;subst e;exact⟨hr1,by omega⟩
theorem ou (hf:fn.results=#[.cell c 135]) (hd:a.defers=[]) (hc:a.tmps.getD c undef= .pointer (some ⟨r,0,none⟩)) (hs:StX P w0 w bw bi inp d s lv l hv fv) (hB:B_ w X) {v:V} {K N:Int} (hr:X.heap[r]?=some (.cells #[.int .u8 K,.int .i64 N] 135)) (hK:K=v.K) (hN:N=v.N):
  bodyPost prog fn (λen w'=>But (FrD P w0) w w'/\ld P w0 bw bi inp d lv (.ok v l s) en w') .ret a X:=by
 subst hK hN;exact kq hf hd hc hr ⟨fg hB,rfl,hv,fv,hs.new hB⟩
theorem Cb {X0:World} (hf:fn.results=#[.cell c 135]) (hd:a.defers=[]) (hc:a.tmps.getD c undef= .pointer (some ⟨r,0,none⟩)) (hs:StX P w0 X0 bw bi inp d s lv l hv fv) (hB0:But (FrD P w0) w X0) (hB:B_ X0 X) {v:V} {K N:Int} (hr:X.heap[r]?=some (.cells #[.int .u8 K,.int .i64 N] 135)) (hK:K=v.K) (hN:N=v.N):
  bodyPost prog fn (λen w'=>But (FrD P w0) w w'/\ld P w0 bw bi inp d lv (.ok v l s) en w') .ret a X:=by
 subst hK hN;exact kq hf hd hc hr ⟨hB0.trans (fg hB),rfl,hv,fv,hs.new hB⟩
theorem rf {X0:World} (hf:fn.results=#[.cell c 135]) (hd:a.defers=[]) (hc:a.tmps.getD c undef= .pointer (some ⟨r,0,none⟩)) {rd lf e:Int} {E:Nat} {o:L_} (hs:WkB X0 bw bi hv inp rd lf d o e) (he:e=E) (hB0:But (FrD P w0) w X0) (hB:B_ X0 X) {K N:Int} (hr:X.heap[r]?=some (.cells #[.int .u8 K,.int .i64 N] 135)):
  bodyPost prog fn (λen w'=>But (FrD P w0) w w'/\ld P w0 bw bi inp d lv (.bad E o) en w') .ret a X:=by
 subst he;have b:=hs.but hB (λh=>h);exact kq hf hd hc hr ⟨hB0.trans (fg hB),⟨_,_,rfl⟩,b.lt,hv,_,_,b⟩
theorem uk (hf:fn.results=#[.cell c 135]) (hd:a.defers=[]) (hc:a.tmps.getD c undef= .pointer (some ⟨r,0,none⟩)) {rd lf e:Int} {E:Nat} {o:L_} (hs:WkB X bw bi hv inp rd lf d o e) (he:e=E) (hne:bw≠r) (hr:jz X r) (hr2:w.heap.size<=r) (hB:But (FrD P w0) w X) {K N:Int}:
  bodyPost prog fn (λen w'=>But (FrD P w0) w w'/\ld P w0 bw bi inp d lv (.bad E o) en w') .ret a ((X.setCell ⟨r,0,none⟩ (.int .u8 K)).setCell ⟨r,1,none⟩ (.int .i64 N)):=by
 subst he;have b:=hs.but (ko X r (.int .u8 K) (.int .i64 N)) (λh=>hne h);exact kq hf hd hc (hr.put _ _) ⟨hB.next (ko _ _ _ _) (λk b e=>by omega),⟨_,_,rfl⟩,b.lt,hv,_,_,b⟩
theorem yB (hf:fn.results=#[.cell c 135]) (hd:a.defers=[]) (hc:a.tmps.getD c undef= .pointer (some ⟨r,0,none⟩)) (hs:StX P1 w0 X bw bi inp d s lv l hv fv) (hr:jz X r) (hr1:P1 r) (hr2:w.heap.size<=r) (h0:w0.heap.size<=w.heap.size) (hPP: ∀k,P k->P1 k) (hB:But (FrD P w0) w X) {v:V} {K N:Int} {o:Obj} (hK:K=v.K) (hN:N=v.N):
  bodyPost prog fn (λen w'=>But (FrD P w0) w w'/\ld P w0 bw bi inp d lv (.ok v l s) en w') .ret a (((X.setCell ⟨r,0,none⟩ (.int .u8 K)).setCell ⟨r,1,none⟩ (.int .i64 N)).alloc o):=by
 subst hK hN;have hp:=hr.put v.K v.N;refine kq hf hd hc (((aa (λ_=>False) _ o).block r (ae hp) (λh=>h)).trans hp) ⟨(hB.next (ko _ _ _ _) (λk hk e=>by omega)).trans (aa _ _ _),rfl,hv,fv,((hs.tmp (ko _ _ _ _) (λk e=> ?_)).less hPP).new (aa _ _ _)⟩;subst e;exact⟨hr1,by omega⟩
theorem ov (hf:fn.results=#[.cell c 135]) (hd:a.defers=[]) (hc:a.tmps.getD c undef= .pointer (some ⟨r,0,none⟩)) {rd lf e:Int} {E:Nat} {o:L_} (hs:WkB X bw bi hv inp rd lf d o e) (he:e=E) (hne:bw≠r) (hr:jz X r) (hr2:w.heap.size<=r) (hB:But (FrD P w0) w X) {K N:Int} {ob:Obj}:
  bodyPost prog fn (λen w'=>But (FrD P w0) w w'/\ld P w0 bw bi inp d lv (.bad E o) en w') .ret a (((X.setCell ⟨r,0,none⟩ (.int .u8 K)).setCell ⟨r,1,none⟩ (.int .i64 N)).alloc ob):=by
 subst he;have b:=(hs.but (ko X r (.int .u8 K) (.int .i64 N)) (λh=>hne h)).but (aa (λ_=>False) _ ob) (λh=>h);have hp:=hr.put K N;exact kq hf hd hc (((aa (λ_=>False) _ ob).block r (ae hp) (λh=>h)).trans hp) ⟨(hB.next (ko _ _ _ _) (λk b e=>by omega)).trans (aa _ _ _),⟨_,_,rfl⟩,b.lt,hv,_,_,b⟩
theorem ld.val {rr:R} {en:Ending} (h:ld P w0 bw bi inp d lv rr en X): ∃K N:Int,en= .returned (.agg #[.int .u8 K,.int .i64 N]):=by
 cases rr with
 |bad e o=>exact h.1
 |ok v l s=>exact⟨_,_,h.1⟩
theorem kr {W w1:World} {rr:R} {K N:Int} (hf:fn.results=#[.cell c 135]) (hd:a.defers=[]) (hc:a.tmps.getD c undef= .pointer (some ⟨r,0,none⟩)) (hB0:But (FrD P w0) w W) (hB:But (FrD P1 w0) W w1) (hq:ld P1 w0 bw bi inp d lv rr (.returned (.agg #[.int .u8 K,.int .i64 N])) w1) (hr:jz w1 r) (hr1:P1 r) (hr2:w.heap.size<=r) (h0:w0.heap.size<=w.heap.size) (hPP: ∀k,P k->P1 k) (hbr:bw≠r):
  bodyPost prog fn (λen w'=>But (FrD P w0) w w'/\ld P w0 bw bi inp d lv rr en w') .ret a ((w1.setCell ⟨r,0,none⟩ (.int .u8 K)).setCell ⟨r,1,none⟩ (.int .i64 N)):=by
 have f:But (FrD P w0) w w1:=hB0.trans (hB.mono (λk _ h=>⟨h.1,λhp=>h.2 (hPP k hp)⟩))
 cases rr with
 |bad e o=>
  obtain⟨_,_,hv,rd,lf,g⟩:=hq;exact uk hf hd hc g rfl hbr hr hr2 f
 |ok v l s=>
  obtain⟨b,hv,fv,i⟩:=hq;injection b with b;injection b with b;simp only[Array.mk.injEq,List.cons.injEq,Value.int.injEq,true_and,and_true]at b;exact kA hf hd hc i hr hr1 hr2 h0 hPP f b.1 b.2
end
theorem Dp:(prog.info? 265).map (λi=>(i.zero,i.size,i.bytes))=some (some (.agg #[.int .i64 0,S_]),2,32):=by kernel_rfl
theorem tst {x k:Nat} (h:x=k):((x:Int)==(k:Int))=true:=by rw[aX];omega
theorem tsf {x k:Nat} (h:x≠k):((x:Int)==(k:Int))=false:=by rw[eu];omega
theorem Cc {B:Nat} (P:Nat->Prop) (w0 w:World) (bw bi d:Nat) (inp:ByteArray) (s:Ev) (lv hv:Value) (l:List V) (fv:List Value) (im:Img) (hI:dZ w0 bi im) (hW:dN im) (hst:StX P w0 w bw bi inp d s lv l hv fv) (hs:StT im B s) (x:Ins) (e nl:Nat) (hx:WfN im.zq im.zx.length nl x) (hll:l.length=nl) (hx0:az x.op=0):
  Calls prog 123 #[.pointer (some ⟨bw,0,none⟩),.agg #[.int .u8 x.op.toNat,.int .i64 x.a,.int .i64 x.b,.int .i64 x.pos,.int .i64 e],lv] w λen w'=>But (FrD P w0) w w'/\ld P w0 bw bi inp d lv (ed im inp x l s) en w':=by
 have e7:=hst.blt;have b9:x.op.toNat=114\/x.op.toNat=122\/x.op.toNat=108\/x.op.toNat=110\/(x.op.toNat≠114/\x.op.toNat≠122/\x.op.toNat≠108/\x.op.toNat≠110):=by omega
 have b3:=hs.cap;have f5:=hs.rd;obtain⟨W,E⟩: ∃W,(w.alloc (.cells #[.int .u8 x.op.toNat,.int .i64 x.a,.int .i64 x.b,.int .i64 x.pos,.int .i64 e] 147)).alloc (.cells #[.int .u8 0,.int .i64 0] 135)=W:=⟨_,rfl⟩;have C:B_ w W:=by rw[<-E];exact(aa _ _ _).trans (aa _ _ _)
 have Q:W.heap[w.heap.size]?=some (.cells #[.int .u8 x.op.toNat,.int .i64 x.a,.int .i64 x.b,.int .i64 x.pos,.int .i64 e] 147):=by rw[<-E];exact((aa (λ_=>False) _ _).block _ (by simp) (λh=>h)).trans (aO w _)
 have Z:W.heap[w.heap.size+1]?=some (.cells #[.int .u8 0,.int .i64 0] 135):=by rw[<-E];exact aB (by simp) _
 have f:=hst.grow C;have a1:jz W (w.heap.size+1):=⟨0,0,Z⟩;have f3:=ae Z;have M:=hid E;clear E;obtain h|h|h|h|h:=b9
 .have t1:((x.op.toNat:Int)==114)=true:=tst h;rw[show ed im inp x l s= .ok (.i (iV inp s.read)) l {s with read:=s.read+1}from by unfold ed;rw[if_pos h]];clear hx hx0 h
  go_in
  go_wp2_with fail;rw[M.out];clear M;have c2:=f.wk.c2;have c3:=f.wk.c3;have fz:=f.wk.fz 3;have q:=f.blt;refine aD (B_ W) 9 ?_;have j:B_ W W.drew:=aA _ _
  iterate 8 (refine aF (v:=?_) rfl j ?_ ?_;rotate_left;(focus (intro wS h;have q0:=(h.kc c2 q);have q1:=(h.kc c3 q);clear h;go_simp;try rfl));dsimp only[Act.put];try simp only[bW])
  refine au rfl ?_;intro KS hKS;go_simp;refine(qZ inp s.read (by omega) _).mono ?_;rintro en wx ⟨rfl,b2⟩;rw[b2];clear b2 wx;refine hKS.out _ _ (λ_=>j) ?_;clear hKS KS;refine au rfl ?_;intro KS hKS;go_simp;refine hKS.out _ _ nofun ?_;clear hKS KS;refine aI rfl ?_;have c:=f.new j;have T:=C.trans j;have J:=a1.but j (λh=>h);clear j C c2 c3 fz q Z Q a1;generalize D:(λk=>P k\/(w.heap.size<=k/\k<W.heap.size))=P1 at*;have A:=hid D;clear D f;generalize W.drew=wd at*;have c3:=c.wk.c3;have fz:=c.wk.fz 3;have q:=c.blt;obtain⟨K9,N9,r0,r1,f0,f1,c8⟩:=J.parts;have a2:=dc ((s.read:Int)+1) (by omega) (by omega)
  rw[IntWalk.i64_left]at a2;have b7:bw≠w.heap.size+1:=by omega
  go_wp2_with fail;have L:=c.work (s':={s with read:=s.read+1}) (d':=d) (aj wd bw 3 (.int .i64 ((s.read:Int)+1))) rfl (by have:=c.wk.set3 ((s.read:Int)+1);simpa using this);have S:But (FrD P w0) w (wd.setCell ⟨bw,3,none⟩ (.int .i64 ((s.read:Int)+1))):=(fg T).next (aj _ _ _ _) (λk hk e=>by subst e;exact⟨hst.ge,hst.pw⟩);exact kA results123 rfl rfl L (J.but (aj _ _ _ _) (λe=>b7 e.symm)) (by rw[<-A.out];exact Or.inr ⟨by omega,by omega⟩) (by omega) hst.old.size (λk hk=>by rw[<-A.out];exact Or.inl hk) S (v:= .i (iV inp s.read)) rfl rfl
 .have t0:((x.op.toNat:Int)==114)=false:=tsf (k:=114) (by omega);have t1:((x.op.toNat:Int)==122)=true:=tst h;rw[show ed im inp x l s= .ok .z l s from by unfold ed;rw[if_neg (by omega),if_pos h]];clear hx hx0 h
  go_in
  go_wp2_with fail;exact ou results123 rfl rfl hst ((aa _ _ _).trans (aa _ _ _)) (aB (by simp) _) (v:= .z) rfl rfl
 .have t0:((x.op.toNat:Int)==114)=false:=tsf (k:=114) (by omega);have t1:((x.op.toNat:Int)==122)=false:=tsf (k:=122) (by omega);have t2:((x.op.toNat:Int)==108)=true:=tst h;rw[show ed im inp x l s= .ok (l.getD x.b .z) l s from by unfold ed;rw[if_neg (by omega),if_neg (by omega),if_pos h]];have e0:x.b<l.length:=by rw[hll];exact hx.loc (Or.inl h)
  clear hx hx0 h;obtain⟨u,hu⟩: ∃u,l[x.b]?=some u:=⟨_,aG e0⟩;rw[show l.getD x.b .z=u from by rw[bH,hu];rfl];obtain⟨al,capl,rfl⟩:=ay hst.lo;obtain⟨g,rfl,e8,f2,r⟩:=aE hst.lo (by omega);have q0:w.cell? ⟨g,x.b*2,none⟩=some (.int .u8 u.K):=r _ _ (aP (k:=0) hu (by omega));have q1:w.cell? ⟨g,x.b*2+1,none⟩=some (.int .i64 u.N):=r _ _ (aP (k:=1) hu (by omega));clear r hu;have f6:(x.b:Int)<(l.length:Int):=by omega
  generalize l.length=nn at*
  go_in
  go_wp2_with fail;exact ou results123 rfl rfl hst ((aa _ _ _).trans (aa _ _ _)) (aB (by simp) _) (v:=u) rfl rfl
 .have t0:((x.op.toNat:Int)==114)=false:=tsf (k:=114) (by omega);have t1:((x.op.toNat:Int)==122)=false:=tsf (k:=122) (by omega);have t2:((x.op.toNat:Int)==108)=false:=tsf (k:=108) (by omega);have t3:((x.op.toNat:Int)==110)=true:=tst h;rw[show ed im inp x l s= .ok (.o s.heap.length) l {s with heap:=s.heap++ [⟨x.a,bS im.zq x.a⟩]}from by unfold ed;simp[h]];have a3:x.a<im.zq.length:=hx.cls (Or.inl h)
  have b4:bB im.zq x.a<=100:=by
   have:=hW.cls x.a _ (aG a3);have:=hW.nc;simp[bB,a3];omega
  clear hx hx0 h
  go_in
  go_wp2_with fail;rw[M.out];clear M;have c0:=f.wk.c0;have n1:=ce1 Q;have q:=f.blt;have a0:=ae Q;refine aD (B_ W) 7 ?_;have j:B_ W W.drew:=aA _ _
  iterate 6 (refine aF (v:=?_) rfl j ?_ ?_;rotate_left;(focus (intro wS h;have q0:=(h.kc c0 q);have q1:=(h.kc n1 a0);clear h;go_simp;try rfl));dsimp only[Act.put];try simp only[bW])
  refine au rfl ?_;intro KS hKS;go_simp;refine(sR bi im x.a _ (hI.but (f.new j).old).cls a3 b4).mono ?_;rintro en wf ⟨vf,rfl,O,X⟩;refine hKS.out _ _ (λ_=>j.trans X) ?_;clear hKS KS;refine au rfl ?_;intro KS hKS;go_simp;refine hKS.out _ _ nofun ?_;clear hKS KS;refine aI rfl ?_;have m:=j.trans X;have c:=f.new m;have T:=C.trans m;have J:=a1.but m (λh=>h);have G:=(m.block _ a0 (λh=>h)).trans Q;clear c0 n1 q a0 X;obtain⟨af,capf,rfl⟩:=ay O;obtain⟨ah,caph,rfl⟩:=ay c.hp
  have a4:Hid (∀g,(Value.slice af (bS im.zq x.a).length capf).ownBlock=some g-> ¬(P g\/(w.heap.size<=g/\g<W.heap.size))/\lv.ownBlock≠some g/\ ∀v∈fv,v.ownBlock≠some g):=λg hg=>by
   have h1:=aw O g hg;have h2:W.heap.size<=g:=h1;refine⟨λh3=>by have:=f.pl g h3;omega,λh3=>by have:=aY f.lo g h3;omega,λv hv h3=> ?_⟩;obtain⟨k,ob,_,_,ho⟩:=f.fo hv;have:=aY ho g h3;omega
  have e5:=m.size;have e4:=C.size;generalize a6:(bS im.zq x.a).length=nf at*;have a5:=hid a6;clear a6;have c1:=c.wk.c1;have z1:=c.wk.fz 1;have n1:=ce1 G;have Y:=c.blt;have b8:=ae G;have ab:=c.hw;have an:(Value.slice ah s.heap.length caph).ownBlock≠some w.heap.size:=λh=>by have:=aY hst.hp _ h;omega
  obtain⟨i0,b5,e1,e2,e3⟩:=info_parts Dp;have f4:s.heap.length<=4000:=by omega
  have c9:w0.heap.size<=wf.heap.size:=c.old.size;go_wp2_with fail;refine aD (But (λk=>(Value.slice ah s.heap.length caph).ownBlock=some k) wf) 11 ?_;have b0:But (λk=>(Value.slice ah s.heap.length caph).ownBlock=some k) wf wf.drew:=aA _ _
  iterate 9 (refine aF (v:=?_) rfl b0 ?_ ?_;rotate_left;(focus (intro wS h;have q0:=((h.cell (p:=⟨bw,1,none⟩) Y ab).trans c1);have q1:=((h.cell (p:=⟨w.heap.size,1,none⟩) b8 an).trans n1);clear h;go_simp;try rfl));dsimp only[Act.put];try simp only[bW])
  refine au rfl ?_;intro KS hKS;go_simp;refine hKS.out _ _ (λ_=>(aa _ _ _).trans (aA _ _)) ?_;clear hKS KS;refine au rfl ?_;intro KS hKS
  refine step_append_lies _ (by rfl) _ _ _ (by rfl) w0.heap.size 265 i0 _ 2 32 (by kernel_rfl) b5 e1 e2 e3 rfl (by omega) _ s.heap.length (eX s.heap fv) (by rfl) ((c.hp.alloc _).drew)
         ⟨wf.heap.size,0,none⟩ 1 1 [.int .i64 x.a,.slice af nf capf] (by rfl) (by rfl) (iu (cs:=#[.int .i64 x.a,.slice af nf capf]) (t:=265) (fr:=(0,0)) (aO wf _)) (by simp[Value.oneCell'])
         (by omega) (by unfold maxLen;omega) (by omega) (by simp;omega) (wf.heap.size+1) (by simp) ?_
  intro gg y w2 I H F b6;have n:But (λk=>(Value.slice ah s.heap.length caph).ownBlock=some k) wf w2:=((aa _ _ _).trans (aA _ _)).trans (a8 H);refine hKS.out _ _ (λ_=>n) ?_;clear hKS KS;have y0:=(n.cell (p:=⟨bw,1,none⟩) Y ab).trans c1;have y1:=(n.frozen (p:=⟨bw,1,none⟩) Y ab).trans z1;refine au rfl ?_;intro KS hKS;go_simp;refine hKS.out _ _ nofun ?_;clear hKS KS;refine au rfl ?_;intro KS hKS;go_simp;refine hKS.out _ _ nofun ?_;clear hKS KS;refine au rfl ?_;intro KS hKS;go_simp;refine hKS.out _ _ nofun ?_;clear hKS KS;refine aI rfl ?_
  have L:=c.newOb (ob:=⟨x.a,bS im.zq x.a⟩) (vf:= .slice af nf capf) (hv':= .slice (some ⟨gg,0,none⟩) (s.heap.length+1) y) (by rw[a5.out];exact O) (Nat.le_trans f.old.size (bP _)) a4.out n I (λg hg h=>by
   simp only[Value.ownBlock,Option.some.injEq]at hg;subst hg;obtain F|F:=F
   .exact c.ph gg F h
   .have:=c.pl gg h;omega)
  have S:But (FrD P w0) w (w2.setCell ⟨bw,1,none⟩ (.slice (some ⟨gg,0,none⟩) (s.heap.length+1) y)):=
   ((fg T).next n (λk hk h=>⟨aw hst.hp k h,hst.ph k h⟩)).next (aj _ _ _ _) (λk hk e=>by subst e;exact⟨hst.ge,hst.pw⟩)
  have b1:=(J.but n (λh=>by have:=aY hst.hp _ h;omega)).but (aj w2 bw 1 (.slice (some ⟨gg,0,none⟩) (s.heap.length+1) y)) (λe=>by omega);clear y0 y1 c1 z1 n1 n I H F a4 c O b0 J G a5;generalize D:(λk=>P k\/(w.heap.size<=k/\k<W.heap.size))=P1 at*;have A:=hid D;clear D f;generalize (w2.setCell ⟨bw,1,none⟩ (.slice (some ⟨gg,0,none⟩) (s.heap.length+1) y))=w3 at*;have c1:=L.wk.c1;have e6:=L.blt;obtain⟨K9,N9,r0,r1,f0,f1,c8⟩:=b1.parts;have a2:=dc ((s.heap.length:Int)+1-1) (by omega) (by omega);rw[IntWalk.i64_left]at a2;go_wp2_with fail;exact kA results123 rfl rfl L b1 (by rw[<-A.out];exact Or.inr ⟨by omega,by omega⟩) (by omega) hst.old.size (λk hk=>by rw[<-A.out];exact Or.inl hk) S (v:= .o s.heap.length) rfl (by simp[V.N])
 .have t0:((x.op.toNat:Int)==114)=false:=tsf (k:=114) (by omega);have t1:((x.op.toNat:Int)==122)=false:=tsf (k:=122) (by omega);have t2:((x.op.toNat:Int)==108)=false:=tsf (k:=108) (by omega);have t3:((x.op.toNat:Int)==110)=false:=tsf (k:=110) (by omega);rw[show ed im inp x l s= .ok (.i x.b) l s from by unfold ed;simp[h]];clear hx hx0 h
  go_in
  go_wp2_with fail;exact ou results123 rfl rfl hst ((aa _ _ _).trans (aa _ _ _)) (aB (by simp) _) (v:= .i x.b) rfl rfl
theorem StX.obj {P:Nat->Prop} {w0 w:World} {bw bi d:Nat} {inp:ByteArray} {s:Ev} {lv hv:Value} {l:List V} {fv:List Value} (h:StX P w0 w bw bi inp d s lv l hv fv) {k:Nat} {ob:Ob} (hk:s.heap[k]?=some ob):
  ∃(g cap:Nat) (af:Option Addr) (cf:Nat),hv= .slice (some ⟨g,0,none⟩) s.heap.length cap/\k<s.heap.length/\fv[k]?=some (.slice af ob.fs.length cf)/\g<w.heap.size/\w.cell? ⟨g,k*2,none⟩=some (.int .i64 ob.cls)/\w.cell? ⟨g,k*2+1,none⟩=some (.slice af ob.fs.length cf):=by
 have hl:=(bc hk).1;have b:=aG (show k<fv.length by rw[h.len];exact hl);obtain⟨af,cf,hv'⟩:=ay (h.fl k ob _ hk b);obtain⟨ah,cap,rfl⟩:=ay h.hp;obtain⟨g,rfl,c,e,a⟩:=aE h.hp (by omega);rw[hv']at b;exact⟨g,cap,af,cf,rfl,hl,b,c,a _ _ (k9 (j:=0) hk b (by omega)),a _ _ (k9 (j:=1) hk b (by omega))⟩
theorem Dq {B:Nat} (P:Nat->Prop) (w0 w:World) (bw bi d:Nat) (inp:ByteArray) (s:Ev) (lv hv:Value) (l:List V) (fv:List Value) (im:Img) (hI:dZ w0 bi im) (ht:iM w0) (hR:iA im) (hst:StX P w0 w bw bi inp d s lv l hv fv) (hs:StT im B s) (x:Ins) (e:Nat) (lo:L_) (hx:WfN im.zq im.zx.length lo.length x) (hll:LT im.zq s.heap lo l) (hx1:az x.op=1) (ta:UInt8) (v:V) (hv':VT im.zq s.heap ta v) (tt:UInt8) (hnt:aV im.zq im.zx lo x [ta]=some tt) (hlo: ∀t∈lo,cw im.zq.length t=true):
  Calls prog 125 #[.pointer (some ⟨bw,0,none⟩),.agg #[.int .u8 x.op.toNat,.int .i64 x.a,.int .i64 x.b,.int .i64 x.pos,.int .i64 e],.agg #[.int .u8 v.K,.int .i64 v.N],lv] w λen w'=>But (FrD P w0) w w'/\ld P w0 bw bi inp d lv (fa im x v l s) en w':=by
 have b8:=hst.blt;have hW:=hR.wf;have b2:=hW.nc
 have e4:x.op.toNat=115\/x.op.toNat=103\/x.op.toNat=120\/x.op.toNat=119:=by
  unfold az at hx1
  split at hx1
  .omega
  .split at hx1
   .omega
   .split at hx1
    .rename_i h3;simpa using h3
    .omega
 obtain⟨W,F⟩: ∃W,((w.alloc (.cells #[.int .u8 x.op.toNat,.int .i64 x.a,.int .i64 x.b,.int .i64 x.pos,.int .i64 e] 147)).alloc (.cells #[.int .u8 v.K,.int .i64 v.N] 135)).alloc (.cells #[.int .u8 0,.int .i64 0] 135)=W:=⟨_,rfl⟩;have j:B_ w W:=by rw[<-F];exact((aa _ _ _).trans (aa _ _ _)).trans (aa _ _ _)
 have M:W.heap[w.heap.size]?=some (.cells #[.int .u8 x.op.toNat,.int .i64 x.a,.int .i64 x.b,.int .i64 x.pos,.int .i64 e] 147):=by rw[<-F];exact(((aa (λ_=>False) _ _).trans (aa _ _ _)).block _ (by simp) (λh=>h)).trans (aO w _)
 have q:W.heap[w.heap.size+1]?=some (.cells #[.int .u8 v.K,.int .i64 v.N] 135):=by rw[<-F];exact((aa (λ_=>False) _ _).block _ (by simp) (λh=>h)).trans (aB (by simp) _)
 have O:W.heap[w.heap.size+1+1]?=some (.cells #[.int .u8 0,.int .i64 0] 135):=by rw[<-F];exact aB (by simp) _
 have y:=hst.grow j;have J:jz W (w.heap.size+1+1):=⟨0,0,O⟩;have g5:=ae O;have C:=hid F;clear F;obtain h|h|h|h:=e4
 .have t1:((x.op.toNat:Int)==115)=true:=tst h;rw[show fa im x v l s= .ok (.i 0) (l.set x.b v) s from by unfold fa;rw[if_pos h]];have a1:x.b<l.length:=by rw[hll.len];exact hx.loc (Or.inr h)
  clear hx hx1 h hnt;obtain⟨al,capl,rfl⟩:=ay hst.lo;obtain⟨g,rfl,f5,b9,f⟩:=aE hst.lo (by omega);obtain⟨u,Q⟩: ∃u,l[x.b]?=some u:=⟨_,aG a1⟩;have q0:w.cell? ⟨g,x.b*2,none⟩=some (.int .u8 u.K):=f _ _ (aP (k:=0) Q (by omega));have q1:w.cell? ⟨g,x.b*2+1,none⟩=some (.int .i64 u.N):=f _ _ (aP (k:=1) Q (by omega));obtain⟨cur,H⟩:=jG hst.lo (g:=g) rfl;have z0:=bG w g (x.b*2) _ _ H;have z1:=bG w g (x.b*2+1) _ _ H;have HS:=hid (hst.setL (g:=g) rfl x.b v);have a5:FrD P w0 g:=⟨b9,hst.po g rfl⟩;clear f Q H;have e8:(x.b:Int)<(l.length:Int):=by omega
  generalize l.length=nn at*;have a6:g<w.heap.size+1:=by omega
  have b0:g<w.heap.size+1+1:=by omega
  go_in
  go_wp2_with fail;exact Cb results125 rfl rfl HS.out ((But.setCell w (a:=⟨g,x.b*2,none⟩) a5 _).trans (But.setCell _ (a:=⟨g,x.b*2+1,none⟩) a5 _)) (((aa _ _ _).trans (aa _ _ _)).trans (aa _ _ _)) (aB (by simp[aU]) _) (v:= .i 0) rfl rfl
 .have t0:((x.op.toNat:Int)==115)=false:=tsf (k:=115) (by omega);have t1:((x.op.toNat:Int)==119)=false:=tsf (k:=119) (by omega);have t2:((x.op.toNat:Int)==120)=false:=tsf (k:=120) (by omega);have b6:=hx.cls (by omega);have a1:=hx.fld (by omega);simp[aV,a9,aT,Sp.arith,h]at hnt;obtain⟨X,_⟩:=hnt;obtain⟨hC,b7⟩:=eU (a:=x.a) (by omega);have L:=hv'.sub hW.cls b2 hs.ht (t':=bQ x.a) (nV (by simpa using X)) (by have:=bL.1 hC;omega);clear X;obtain rfl| ⟨k,ob,rfl,hk,_,Q⟩:=L.ref (bZ hC)
  .rw[show fa im x .z l s= .bad 6 s.out from by unfold fa;simp[h]];clear hx hx1 h;have c7:=hst.wk.c7;have z7:=hst.wk.fz 7;have a6:bw<w.heap.size+1:=by omega
   have b0:bw<w.heap.size+1+1:=by omega
   simp only[V.K,V.N]
   go_in
   go_wp2_with fail;exact rf results125 rfl rfl (hst.wk.set7 6) rfl (re hst (aj _ _ _ _)) (((aa _ _ _).trans (aa _ _ _)).trans (aa _ _ _)) (aB (by simp[aU]) _)
  .rw[b7]at Q;obtain⟨g1,g2⟩:=nX hR hs b6 a1 hk Q;obtain⟨u,S⟩: ∃u,ob.fs[x.b]?=some u:=⟨_,aG g1⟩;rw[show fa im x (.o k) l s= .ok u l s from by unfold fa;simp[h,(Ev.at hk).2,S]];obtain⟨gh,cph,af,cf,rfl,e0,a4,Y,o0,o1⟩:=hst.obj hk;have T:=hst.fl k ob _ hk a4;obtain⟨gf,rfl,b1,_,f⟩:=aE T (by omega);have q0:w.cell? ⟨gf,x.b*2,none⟩=some (.int .u8 u.K):=f _ _ (aP (k:=0) S (by omega));have q1:w.cell? ⟨gf,x.b*2+1,none⟩=some (.int .i64 u.N):=f _ _ (aP (k:=1) S (by omega));have c1:=hst.wk.c1;clear f S hx hx1 h Q T g2 L hv';have e8:(x.b:Int)<(ob.fs.length:Int):=by omega
   have c9:(k:Int)<(s.heap.length:Int):=by omega
   have a6:bw<w.heap.size+1:=by omega
   have b0:bw<w.heap.size+1+1:=by omega
   have f6:gh<w.heap.size+1:=by omega
   have g0:gh<w.heap.size+1+1:=by omega
   have g3:gf<w.heap.size+1:=by omega
   have g4:gf<w.heap.size+1+1:=by omega
   simp only[V.K,V.N]
   go_in
   go_wp2_with fail;have c:=C.out;simp only[V.K,V.N]at c q;rw[show((111:Nat):Int)=111 from rfl]at c q;rw[c];clear c C;have d0:=j.kc q0 b1;have d1:=j.kc q1 b1;have d2:=j.kc o1 Y;have d3:=j.kc c1 b8;have n2:=ce2 M;have v1:=ce1 q;have n:B_ W W.drew:=aA _ _;have b4:=j.size;have m1:w.heap.size<W.heap.size:=by omega
   have m2:w.heap.size+1<W.heap.size:=by omega
   have m3:gf<W.heap.size:=by omega
   have m4:gh<W.heap.size:=by omega
   have m5:bw<W.heap.size:=by omega
   refine aD (B_ W) 13 ?_
   iterate 13 (refine aF (v:=?_) rfl n ?_ ?_;rotate_left;(focus (intro wS h;have q0:=(h.kc d0 m3);have q1:=(h.kc d1 m3);have q2:=(h.kc d2 m4);have q3:=(h.kc d3 m5);have q4:=(h.kc n2 m1);have q5:=(h.kc v1 m2);clear h;go_simp;try rfl));dsimp only[Act.put];try simp only[bW])
   have p:=y.new n;have E:=j.trans n;have r:=J.but n (λh=>h);generalize W.drew=wd at*;obtain⟨K9,N9,r0,r1,f0,f1,b3⟩:=r.parts;refine dU rfl ?_;go_wp2_with fail;exact kA results125 rfl rfl p r (Or.inr ⟨by omega,by omega⟩) (by omega) hst.old.size (λk hk=>Or.inl hk) (fg E) (v:=u) rfl rfl
 .have t0:((x.op.toNat:Int)==115)=false:=tsf (k:=115) (by omega);have t1:((x.op.toNat:Int)==119)=false:=tsf (k:=119) (by omega);have t2:((x.op.toNat:Int)==120)=true:=tst h;have b6:=hx.cls (by omega);simp[aV,a9,aT,Sp.arith,h]at hnt;obtain⟨X,_⟩:=hnt;obtain rfl| ⟨k,ob,rfl,hk,_,Q⟩:=hv'.ref X
  .rw[show fa im x .z l s= .ok .z l s from by unfold fa;simp[h]];clear hx hx1 h;simp only[V.K,V.N]
   go_in
   go_wp2_with fail;exact Cb results125 rfl rfl hst (bf _ _) (((aa _ _ _).trans (aa _ _ _)).trans (aa _ _ _)) (aB (by simp[aU]) _) (v:= .z) rfl rfl
  .obtain⟨gh,cph,af,cf,rfl,e0,a4,Y,o0,o1⟩:=hst.obj hk;have f4:=hs.ht.cls k ob hk;obtain⟨b,hb⟩: ∃b,bu im.zq 5 (ob.cls:Int) (x.a:Int)=b:=⟨_,rfl⟩;obtain⟨RR,A⟩: ∃RR,fa im x (.o k) l s=RR:=⟨_,rfl⟩;have HR:Hid (RR=if b=true then .ok (.o k) l s else .bad 8 s.out):=by show _=_;rw[<-A];unfold fa;simp[h,(Ev.at hk).1,hb]
   rw[A];clear A;have a0:=λw hI=>mo bi im.zq ob.cls x.a w hI hW.cls (by omega) (by omega)
   rw[hb]at a0;have a3:=hid a0;clear hx hx1 h Q hv' hb a0;have c9:(k:Int)<(s.heap.length:Int):=by omega
   have HV:=hid q;simp only[V.K,V.N]at q⊢;rw[show((111:Nat):Int)=111 from rfl]at q⊢
   go_in
   go_wp2_with fail;have c:=C.out;simp only[V.K,V.N]at c;rw[show((111:Nat):Int)=111 from rfl]at c;rw[c];clear c C HV;have c0:=y.wk.c0;have c1:=y.wk.c1;have d2:=j.kc o0 Y;have n1:=ce1 M;have v0:=ce0 q;have v1:=ce1 q;have n:B_ W W.drew:=aA _ _;have b4:=j.size;have m1:w.heap.size<W.heap.size:=by omega
   have m2:w.heap.size+1<W.heap.size:=by omega
   have m4:gh<W.heap.size:=by omega
   have m5:bw<W.heap.size:=by omega
   refine aD (B_ W) 16 ?_
   iterate 15 (refine aF (v:=?_) rfl n ?_ ?_;rotate_left;(focus (intro wS h;have q0:=(h.kc c0 m5);have q1:=(h.kc c1 m5);have q2:=(h.kc d2 m4);have q3:=(h.kc n1 m1);have q4:=(h.kc v1 m2);clear h;go_simp;try rfl));dsimp only[Act.put];try simp only[bW])
   refine au rfl ?_;intro KS hKS;go_simp;refine(a3.out _ (hI.but (y.new n).old).cls).mono ?_;rintro en wx ⟨rfl,b5⟩;rw[b5];clear b5 wx;refine hKS.out _ _ (λ_=>n) ?_;clear hKS KS;refine au rfl ?_;intro KS hKS;go_simp;refine hKS.out _ _ nofun ?_;clear hKS KS;refine aI rfl ?_;have p:=y.new n;have E:=j.trans n;have r:=J.but n (λh=>h);have I:=(n.block _ m2 (λh=>h)).trans q;clear c0 c1 d2 n1 v0 v1 n y J q M O a3 j;generalize W.drew=wd at*;have v0:=ce0 I;have v1:=ce1 I;obtain⟨K9,N9,r0,r1,f0,f1,b3⟩:=r.parts;have g7:=ae I;have e3: ¬bw=w.heap.size+1:=by omega
   cases b with
   |true=>
    have A:RR= .ok (.o k) l s:=HR.out;subst A;go_wp2_with fail;exact kA results125 rfl rfl p r (Or.inr ⟨by omega,by omega⟩) (by omega) hst.old.size (λk hk=>Or.inl hk) (fg E) (v:= .o k) rfl rfl
   |false=>
    have A:RR= .bad 8 s.out:=HR.out;subst A;have c7:=p.wk.c7;have z7:=p.wk.fz 7;have m5:=p.blt;go_wp2_with fail;exact uk results125 rfl rfl (p.wk.set7 8) rfl (by omega) (r.but (aj _ _ _ _) (λe=>by omega)) (by omega) ((fg E).next (aj _ _ _ _) (λk hk e=>by subst e;exact⟨hst.ge,hst.pw⟩))
 .have t0:((x.op.toNat:Int)==115)=false:=tsf (k:=115) (by omega);have t1:((x.op.toNat:Int)==119)=true:=tst h;simp[aV,a9,aT,Sp.arith,h]at hnt;obtain⟨X,_⟩:=hnt;have L:=hv'.sub hW.cls b2 hs.ht (t':=105) (nV (by simpa using X)) (by decide);obtain⟨m,rfl,e1,e2⟩:=L.int (by decide);rw[show fa im x (.i m) l s= .ok (.i 0) l (s.say m)from by unfold fa;simp[h,V.N]];clear hx hx1 h X L hv';have c8:=Lib.itoa_length_le m (by omega) (by omega);have g6:=hs.o;obtain⟨D,hD⟩: ∃D,Lib.itoa m=D:=⟨_,rfl⟩;have HS:Hid (s.say m={s with out:=s.out++D++ [32]}):=by show _=_;simp[Ev.say,hD]
  have Z:=λw ht=>rc m e1 e2 w ht
  rw[hD]at Z c8;have a2:=hid Z;clear Z hD;simp only[V.K,V.N]
  go_in
  go_wp2_with fail;have c:=C.out;simp only[V.K,V.N]at c;rw[show((105:Nat):Int)=105 from rfl]at c;rw[c];clear c C;refine(a2.out _ (ht.but y.old)).mono ?_;rintro en w1 ⟨rfl,G⟩;have p:=y.new G;have E:=j.trans G;have r:=J.but G (λh=>h);have e6:=G.size;clear a2 y J q M O G j;have c6:=p.wk.c6;have z6:=p.wk.fz 6;have m5:=p.blt;obtain⟨K9,N9,r0,r1,f0,f1,b3⟩:=r.parts;have f2:=db s.out D;have f3:=fp (s.out++D) 32;have b4:(⟨s.out.toArray⟩:ByteArray).size+(⟨D.toArray⟩:ByteArray).size<=200000:=by show s.out.toArray.size+D.toArray.size<=200000;simp;omega
  have e7:(⟨(s.out++D).toArray⟩:ByteArray).size+(⟨#[32]⟩:ByteArray).size<=200000:=by show(s.out++D).toArray.size+1<=200000;simp;omega
  go_wp2_with fail;rw[HS.out];have e5:=p.work (s':={s with out:=s.out++D++ [32]}) (d':=d) (aj w1 bw 6 (.string ⟨(s.out++(D++ [32])).toArray⟩)) rfl (by rw[ky];exact p.wk.set6 _);exact kA results125 rfl rfl e5 (r.but (aj _ _ _ _) (λe=>by omega)) (Or.inr ⟨by omega,by omega⟩) (by omega) hst.old.size (λk hk=>Or.inl hk) ((fg E).next (aj _ _ _ _) (λk hk e=>by subst e;exact⟨hst.ge,hst.pw⟩)) (v:= .i 0) rfl rfl
theorem Fb:((V.z).K:Int)=122:=rfl
theorem Fc:(V.z).N=0:=rfl
theorem Ey {k:Nat}:((V.o k).K:Int)=111:=rfl
theorem Ez {k:Nat}:(V.o k).N=(k:Int):=rfl
def iN (w0:World) (b:Bod) (vt:Value):Prop:= ∃ak capk,vt= .slice ak b.code.length capk/\w0.ownsRow 0 147 5 vt b.code.length (cu (du 0 b.code))
def ip (b:Bod) (vt:Value):Value:= .agg #[.int .i64 b.cls,.int .i64 b.meth,.string ⟨b.zy.toArray⟩,S_,vt]
def sS (im:Img) (inp:ByteArray) (w0:World) (bw bi f:Nat):Prop:=
 ∀(b:Bod) (d i:Nat) (l:List V) (s:Ev) (t:UInt8) (F B:Nat) (P:Nat->Prop) (w:World) (lv hv:Value) (fv:List Value) (vt:Value),b∈im.zj->d<=12->bX im.zq im.zx b.zy b.code F i=some t->LT im.zq s.heap b.zy l->StT im B s->s.left<=f->StX P w0 w bw bi inp d s lv l hv fv->iN w0 b vt->
  Calls prog 74 #[.pointer (some ⟨bw,0,none⟩),ip b vt,.int .i64 i,lv] w λen w'=>But (FrD P w0) w w'/\ld P w0 bw bi inp d lv (bY im inp f b d i l s) en w'
theorem dZ.body {w:World} {bi:Nat} {im:Img} (h:dZ w bi im) {k:Nat} {b:Bod} (hk:im.zj[k]?=some b):
  ∃(g cap:Nat) (vt:Value),w.cell? ⟨bi,2,none⟩=some (.slice (some ⟨g,0,none⟩) im.zj.length cap)/\k<im.zj.length/\bi<w.heap.size/\g<w.heap.size/\iN w b vt/\w.cell? ⟨g,k*5,none⟩=some (.int .i64 b.cls)/\w.cell? ⟨g,k*5+1,none⟩=some (.int .i64 b.meth)/\w.cell? ⟨g,k*5+2,none⟩=some (.string ⟨b.zy.toArray⟩)/\w.cell? ⟨g,k*5+3,none⟩=some S_/\w.cell? ⟨g,k*5+4,none⟩=some vt:=by
 obtain⟨v0,v1,v2,l,e,x,y,s,hl,j⟩:=h;have n:=(bc hk).1;have p:l.length=im.zj.length:=by rw[<-hl];simp
 obtain⟨v,d,rfl⟩:=ay s;obtain⟨g,rfl,m,t,a⟩:=aE s (by omega);have c:=aG (show k<l.length by omega)
 have f:l[k].1=b:=by
  have r:(l.map (·.1))[k]?=im.zj[k]?:=by rw[hl]
  rw[cV,c,hk]at r;simpa using r
 obtain⟨i,q⟩:=j _ (bD (show k<l.length by omega));obtain⟨ak,capk,hv⟩:=ay i;have c2:=e.c2;rw[p]at c2;refine⟨g,d,l[k].2.2,c2,n,e.lt,m,⟨ak,capk,by rw[<-f];exact hv,by rw[<-f];exact i⟩,?_,?_,?_,?_,a _ _ (fQ c)⟩
 .rw[<-f];exact a _ _ (eP c)
 .rw[<-f];exact a _ _ (eQ c)
 .rw[<-f];exact a _ _ (fO c)
 .rw[<-q];exact a _ _ (fP c)
def ow (im:Img) (inp:ByteArray) (f d:Nat) (x:Ins) (u v:V) (l:List V) (s:Ev):R:=match u with
 | .o k=>if 12<=d then .bad 10 s.out else
  match bY im inp f (aZ im x k s) (d+1) 0 (aL (aZ im x k s) [u,v]) s with
  | .bad e o=> .bad e o
  | .ok r _ s=> .ok r l s
 |_=> .bad 6 s.out
theorem Cd {B f:Nat} (P:Nat->Prop) (w0 w:World) (bw bi d:Nat) (inp:ByteArray) (s:Ev) (lv hv:Value) (l:List V) (fv:List Value) (im:Img) (hI:dZ w0 bi im) (hR:iA im) (IH:sS im inp w0 bw bi f) (hst:StX P w0 w bw bi inp d s lv l hv fv) (hs:StT im B s) (hsf:s.left<=f) (hd:d<=12) (x:Ins) (e:Nat) (hxa:x.a<im.zq.length) (hxb:x.b<im.zx.length) (hlk:0<=bM im.zq im.zj x.b 5 x.a) (u v:V) (hu:VT im.zq s.heap (bQ x.a) u) (hv':VT im.zq s.heap (fU im.zx x.b) v):
  Calls prog 187 #[.pointer (some ⟨bw,0,none⟩),.agg #[.int .u8 x.op.toNat,.int .i64 x.a,.int .i64 x.b,.int .i64 x.pos,.int .i64 e],.agg #[.int .u8 u.K,.int .i64 u.N],.agg #[.int .u8 v.K,.int .i64 v.N]] w λen w'=>But (FrD P w0) w w'/\ld P w0 bw bi inp d lv (ow im inp f d x u v l s) en w':=by
 have o3:=hst.blt;have hW:=hR.wf;have n4:=hW.nc;obtain⟨hC,h7⟩:=eU (a:=x.a) (by omega);obtain rfl| ⟨k,ob,rfl,T,_,hun⟩:=hu.ref (bZ hC)
 .simp only[ow];have c7:=hst.wk.c7;have z7:=hst.wk.fz 7;have f5:bw<w.heap.size+1:=by omega
  have f6:bw<w.heap.size+1+1:=by omega
  have g0:bw<w.heap.size+1+1+1:=by omega
  simp only[Fb,Fc]
  go_in
  go_wp2_with fail;exact rf results187 rfl rfl (hst.wk.set7 6) rfl (re hst (aj _ _ _ _)) ((((aa _ _ _).trans (aa _ _ _)).trans (aa _ _ _)).trans (aa _ _ _)) (aB (by simp[aU]) _)
 .by_cases hd12:12<=d
  .rw[show ow im inp f d x (.o k) v l s= .bad 10 s.out from by simp[ow,hd12]];have c5:=hst.wk.c5;have c7:=hst.wk.c7;have z7:=hst.wk.fz 7;have f5:bw<w.heap.size+1:=by omega
   have f6:bw<w.heap.size+1+1:=by omega
   have g0:bw<w.heap.size+1+1+1:=by omega
   have i4:(12:Int)<=(d:Int):=by omega
   simp only[Ey,Ez]
   go_in
   go_wp2_with fail;exact rf results187 rfl rfl (hst.wk.set7 10) rfl (re hst (aj _ _ _ _)) ((((aa _ _ _).trans (aa _ _ _)).trans (aa _ _ _)).trans (aa _ _ _)) (aB (by simp[aU]) _)
  .have i4: ¬(12:Int)<=(d:Int):=by omega
   have l6:d+1<=12:=by omega
   have b6: ¬w.heap.size+1+1+1=bw:=by omega
   rw[h7]at hun;obtain⟨i5,t,b5,g4,l5,g2,e1⟩:=nY hR hs T hxa hxb hun hlk hv';obtain⟨cb,e5⟩: ∃cb,aZ im x k s=cb:=⟨_,rfl⟩;obtain⟨RR,e2⟩: ∃RR,ow im inp f d x (.o k) v l s=RR:=⟨_,rfl⟩
   have HR:Hid (RR=match bY im inp f cb (d+1) 0 (aL cb [.o k,v]) s with| .bad e o=> .bad e o| .ok r _ s=> .ok r l s):=by
    show _=_
    rw[<-e2,<-e5];simp only[ow,hd12,if_false]
   rw[e2];rw[e5]at t b5 g4 l5 g2 e1;clear e2 e5;have e8:(bM im.zq im.zj x.b 5 (s.cls k)).toNat<im.zj.length:=(bc t).1;obtain⟨jb,b7⟩: ∃jb:Nat,bM im.zq im.zj x.b 5 (s.cls k)=jb:=⟨_,(Int.toNat_of_nonneg i5).symm⟩;rw[b7]at t e8;simp only[jZ]at t e8;obtain⟨gb,capb,vt,b2,e4,i3,I,hT,b0,b1,h4,b3,b4⟩:=hI.body t;obtain⟨gh,cph,af,cf,rfl,n1,i6,j1,o0,o1⟩:=hst.obj T;have e6:=hs.ht.cls k ob T;have e7:=λw hI=>nF bi im ob.cls x.b w hI hW.cls n4 hW.nb (by omega) (by omega)
   rw[(Ev.at T).1]at b7;rw[b7]at e7;have c8:=hid e7;clear e7 b7;have c0:=hst.wk.c0;have c1:=hst.wk.c1;have c5:=hst.wk.c5;obtain⟨W,p⟩: ∃W,(((w.alloc (.cells #[.int .u8 x.op.toNat,.int .i64 x.a,.int .i64 x.b,.int .i64 x.pos,.int .i64 e] 147)).alloc (.cells #[.int .u8 111,.int .i64 k] 135)).alloc (.cells #[.int .u8 v.K,.int .i64 v.N] 135)).alloc (.cells #[.int .u8 0,.int .i64 0] 135)=W:=⟨_,rfl⟩;have M:B_ w W:=by rw[<-p];exact(((aa _ _ _).trans (aa _ _ _)).trans (aa _ _ _)).trans (aa _ _ _)
   have Q:W.heap[w.heap.size]?=some (.cells #[.int .u8 x.op.toNat,.int .i64 x.a,.int .i64 x.b,.int .i64 x.pos,.int .i64 e] 147):=by rw[<-p];exact((((aa (λ_=>False) _ _).trans (aa _ _ _)).trans (aa _ _ _)).block _ (by simp) (λh=>h)).trans (aO w _)
   have G:W.heap[w.heap.size+1]?=some (.cells #[.int .u8 111,.int .i64 k] 135):=by rw[<-p];exact(((aa (λ_=>False) _ _).trans (aa _ _ _)).block _ (by simp) (λh=>h)).trans (aB (by simp) _)
   have S:W.heap[w.heap.size+1+1]?=some (.cells #[.int .u8 v.K,.int .i64 v.N] 135):=by rw[<-p];exact((aa (λ_=>False) _ _).block _ (by simp) (λh=>h)).trans (aB (by simp) _)
   have H:W.heap[w.heap.size+1+1+1]?=some (.cells #[.int .u8 0,.int .i64 0] 135):=by rw[<-p];exact aB (by simp) _
   have z:=hst.grow M;have k0:jz W (w.heap.size+1+1+1):=⟨0,0,H⟩;have m0:=ae H;have h0:=hid p;clear p;have f5:bw<w.heap.size+1:=by omega
   have f6:bw<w.heap.size+1+1:=by omega
   have g0:bw<w.heap.size+1+1+1:=by omega
   simp only[Ey,Ez]
   go_in
   go_wp2_with fail;rw[h0.out];clear h0;have n:B_ w0 W:=z.old;have e0:=n.kc b2 i3;have f0:=n.kc b0 I;have f1:=n.kc b1 I;have f2:=n.kc h4 I;have f3:=n.kc b3 I;have f4:=n.kc b4 I;obtain⟨ak,capk,rfl,i2⟩:=hT;have c0:=z.wk.c0;have c1:=z.wk.c1;have d2:=M.kc o0 j1;have n2:=ce2 Q;have v1:=ce1 G;have E:B_ W W.drew:=aA _ _;have n8:=M.size;have g6:=n.size;have m1:w.heap.size<W.heap.size:=by omega
   have m2:w.heap.size+1<W.heap.size:=by omega
   have m4:gh<W.heap.size:=by omega
   have m5:bw<W.heap.size:=by omega
   have m6:bi<W.heap.size:=by omega
   have Y:gb<W.heap.size:=by omega
   have n0:(k:Int)<(s.heap.length:Int):=by omega
   have m3:(jb:Int)<(im.zj.length:Int):=by omega
   have h9:=(hI.but (z.new E).old).hds;have c9:=λo=>((hI.but ((z.new E).new (aa (λ_=>False) W.drew o)).old)).hds
   have HG:=hid (And.intro Q (And.intro G (And.intro S H)));have HF:=hid (And.intro f0 (And.intro f1 (And.intro f2 (And.intro f3 f4))));have HM:=hid (And.intro g4 (And.intro t (And.intro T i6)));clear Q G S H f0 f1 f2 f3 f4 g4 t T i6 b0 b1 b2 h4 b3 b4 o0 o1 h7 hC hun hu i5 hlk c5;have HC:=hid (And.intro c0 (And.intro c1 (And.intro d2 (And.intro n2 (And.intro v1 e0)))));clear c0 c1 d2 n2 v1 e0
   go_cut [9]from 12 (λs9 wc=>s9= .pointer (some ⟨W.heap.size,0,none⟩)/\B_ W wc/\wc.heap[W.heap.size]?=some (.cells #[.int .i64 cb.cls,.int .i64 cb.meth,.string ⟨cb.zy.toArray⟩,S_,.slice ak cb.code.length capk] 52))
   case first=>
    obtain⟨c0,c1,d2,n2,v1,e0⟩:=HC.out;refine aD (B_ W) 26 ?_
    iterate 22 (refine aF (v:=?_) rfl E ?_ ?_;rotate_left;(focus (intro wS h;have q0:=(h.kc c0 m5);have q1:=(h.kc c1 m5);have q2:=(h.kc d2 m4);have q3:=(h.kc n2 m1);have q4:=(h.kc v1 m2);have q5:=(h.kc e0 m6);clear h;go_simp;try rfl));dsimp only[Act.put];try simp only[bW])
    obtain⟨f0,f1,f2,f3,f4⟩:=HF.out;clear c0 c1 d2 n2 v1 e0;refine oJ (q:=25) (o:= ?oA22) (oq:= ?oqA22) (rest:= ?rsA22) (restq:= ?rqA22) ?hoA22 ?hqA22 ?hrA22 ?stA22 ?sqA22
    case hoA22=>rfl
    case hqA22=>rfl
    case hrA22=>kernel_rfl
    case' stA22=>
     intro KS hKS;go_simp;refine(c8.out _ h9).mono ?_;rintro en wx ⟨rfl,X⟩;rw[X];clear X wx;refine hKS.out _ _ (λ_=>E) ?_;clear hKS KS
     iterate 2 (refine aF (v:=?_) rfl E ?_ ?_;rotate_left;(focus (intro wS h;have q0:=(h.kc f0 Y);have q1:=(h.kc f1 Y);have q2:=(h.kc f2 Y);have q3:=(h.kc f3 Y);have q4:=(h.kc f4 Y);clear h;go_simp;try rfl));dsimp only[Act.put];try simp only[bW])
     clear f0 f1 f2 f3 f4;refine au rfl ?_;intro KS hKS;go_simp;refine hKS.out _ _ (λ_=>(aa _ _ _).trans (aA _ _)) ?_;clear hKS KS;refine dU rfl ?_;go_wp2_with fail
     go_meet
     case rel=>exact⟨rfl,(aa _ _ _).trans (aA _ _),aO _ _⟩
    case' sqA22=>
     intro KS hKS;go_simp;refine hKS.out _ _ (λ_=>(aa _ _ _).trans (aA _ _)) ?_;clear hKS KS;refine oK rfl ?_;intro KS hKS;go_simp;have a6:B_ W (W.alloc (.cells #[.int .i64 0,.int .i64 0,.string ⟨#[]⟩,S_,S_] 52)).drew:=(aa _ _ _).trans (aA _ _);refine(c8.out _ (hI.but (z.new a6).old).hds).mono ?_;rintro en wx ⟨rfl,X⟩;rw[X];clear X wx;refine hKS.out _ _ (λ_=>a6) ?_;clear hKS KS
     iterate 2 (refine oL (v:=?_) rfl a6 ?_ ?_;rotate_left;(focus (intro wS h;have q0:=(h.kc f0 Y);have q1:=(h.kc f1 Y);have q2:=(h.kc f2 Y);have q3:=(h.kc f3 Y);have q4:=(h.kc f4 Y);clear h;go_simp;try rfl));dsimp only[Act.put];try simp only[bW])
     clear f0 f1 f2 f3 f4;refine oM ?_;refine au rfl ?_;intro KS hKS;go_simp;refine hKS.out _ _ nofun ?_;clear hKS KS;refine aI rfl ?_;clear a6;go_wp2_with fail
     go_meet
     case rel=>exact⟨rfl,(aa _ _ _).trans (aA _ _),aO _ _⟩
   case rest=>
    obtain⟨rfl,j,i⟩:=hcut;revert j i;generalize wc=W1;intro j i;obtain⟨Q,G,S,H⟩:=HG.out;have k7:=j.size;have A:=j.kp G;have C:=j.kp S;have J:=hst.grow (M.trans j);have j4:=k0.but j (λh=>h);have a0:=M.trans j;clear Q G S H HG HF HC c8 z k0 j h9 c9 E;have j2:=ae i;have x0:=ce0 A;have x1:=ce1 A;have y0:=ce0 C;have y1:=ce1 C;have l0:=ae A;have l1:=ae C;have z0:=ce0 i;have z1:=ce1 i;have z2:=ce2 i;have z3:=ce3 i;have z4:=ce4 i;go_wp2_with fail;have j0:=aO W1 (.cells #[.int .u8 111,.int .i64 k,.int .u8 v.K,.int .i64 v.N] 135);have a5:B_ W1 (W1.alloc (.cells #[.int .u8 111,.int .i64 k,.int .u8 v.K,.int .i64 v.N] 135)):=aa _ _ _
    have i0:(W1.alloc (.cells #[.int .u8 111,.int .i64 k,.int .u8 v.K,.int .i64 v.N] 135)).ownsRow 0 135 2 (.slice (some ⟨W1.heap.size,0,none⟩) 2 2) 2 (aJ [.o k,v]):=
     ⟨rfl,Or.inr ⟨_,2,_,rfl,by omega,j0,by omega,by unfold maxLen;omega,rfl,rfl⟩⟩
    have a4:=(hW.bod cb b5).loc.1;generalize (W1.alloc (.cells #[.int .u8 111,.int .i64 k,.int .u8 v.K,.int .i64 v.N] 135))=W2 at*;refine(ra cb S_ _ ⟨_,_,_,rfl⟩ [.o k,v] _ 2 W2 a4 g2 0 i0).mono ?_;rintro en w2 ⟨vl,rfl,O,h5⟩;have m:=a5.trans h5;have c:=J.new m;have j5:=j4.but m (λh=>h);have y:=(m.block _ j2 (λh=>h)).trans i;have a1:=a0.trans m
    have h8:Hid (∀g,vl.ownBlock=some g-> ¬(P g\/(w.heap.size<=g/\g<W1.heap.size))/\lv.ownBlock≠some g/\ ∀v∈fv,v.ownBlock≠some g):=λg hg=>by
     have h1:=aw O g hg;have h2:=a5.size;refine⟨λh3=>by have:=J.pl g h3;omega,λh3=>by have:=aY J.lo g h3;omega,λv hv h3=> ?_⟩;obtain⟨k,ob,_,_,ho⟩:=J.fo hv;have:=aY ho g h3;omega
    obtain⟨al,capl,rfl⟩:=ay O;clear x0 x1 y0 y1 z0 z1 z2 z3 z4 A C l0 l1 i0 j0 j4 i j2;have c5:=c.wk.c5;have z5:=c.wk.fz 5;have m5:=c.blt;have z0:=ce0 y;have z1:=ce1 y;have z2:=ce2 y;have z3:=ce3 y;have z4:=ce4 y;have g1:=ae y;have n6: ¬bw=W.heap.size:=by omega
    have j3: ¬W.heap.size=bw:=by omega
    have b9:=hR.ty cb b5
    obtain⟨t',k3⟩: ∃t',bX im.zq im.zx cb.zy cb.code cb.code.length 0=some t':=by
     unfold dt at b9
     cases h:bX im.zq im.zx cb.zy cb.code cb.code.length 0 with
     |none=>rw[h]at b9;cases b9
     |some t'=>exact⟨t',rfl⟩
    have k4:(Value.slice al (aL cb [.o k,v]).length capl).ownBlock≠some bw:=bA O c.wk (by decide);have F:But (· =bw) w2 (w2.setCell ⟨bw,5,none⟩ (.int .i64 ((d:Int)+1))):=aj _ _ _ _;have k1:=c.work (s':=s) (d':=d+1) F rfl (by have:=c.wk.set5 ((d:Int)+1);simpa using this);have k2:=k1.enter (l':=aL cb [.o k,v]) (ag O F (λg hg e=>k4 (e▸hg))) (Nat.le_trans J.old.size a5.size) h8.out;have hc:=IH cb (d+1) 0 (aL cb [.o k,v]) s t' cb.code.length B _ _ _ _ fv (.slice ak cb.code.length capk) b5 l6 k3 e1 hs hsf k2 ⟨ak,capk,rfl,i2⟩;unfold ip at hc;rw[show((0:Nat):Int)=0 from rfl]at hc;have g7:=hid hc;have j7:=j5.but F b6
    have a3:=ag c.lo F (λg hg e=>c.lw (e▸hg));have h6:But (FrD P w0) w (w2.setCell ⟨bw,5,none⟩ (.int .i64 ((d:Int)+1))):=(fg a1).next F (λk T e=>by subst e;exact⟨hst.ge,hst.pw⟩);have n3:=c.lw;have k5:=hid c.po;have i1:P (w.heap.size+1+1+1)\/(w.heap.size<=w.heap.size+1+1+1/\w.heap.size+1+1+1<W1.heap.size):=Or.inr ⟨by omega,by omega⟩;clear a5 h5 m a0 J n f5 f6 g0 m0 m1 m2 m4 m6 Y n8 g6 n0 m3 n1 j1 i3 I e8 e6 i4 g2 a4 e4 hd12 hc k3 b9 c k2 k1 h8 e1 j5 a1 k4 F i2 O HM;go_wp2_with fail;refine g7.out.mono ?_;rintro en w4 ⟨Z,hq⟩;have g5:=j7.but Z (λh=>h.2 (Or.inl i1));have g3:=ag a3 Z (λg hg h=>h.2 (Or.inr hg))
    have a2:But (FrD P w0) w w4:=h6.trans (Z.mono (λk _ h=>⟨h.1,λhp=>h.2 (Or.inl (Or.inl hp))⟩));clear Z g7 z0 z1 z2 z3 z4 c5 z5 j7 a3 h6 m5 y g1;obtain⟨K9,N9,r0,r1,f0,f1,o4⟩:=g5.parts;have n5: ¬bw=w.heap.size+1+1+1:=by omega
    have D:=HR.out
    cases hn:bY im inp f cb (d+1) 0 (aL cb [.o k,v]) s with
    |bad e' o=>
     rw[hn]at hq D;simp only at D;subst D;obtain⟨⟨a,b,rfl⟩,l3,n9,r4,l4,b8⟩:=hq;clear HR hn;have c5:=b8.c5;have z5:=b8.fz 5;have k6:w4.cell? ⟨bw,5,none⟩=some (.int .i64 ((d:Int)+1)):=by rw[c5];simp
     clear c5;have HK:=hid b8;clear b8;go_wp2_with fail;exact ov results187 rfl rfl (HK.out.set5 _) rfl (λh=>b6 h.symm) (g5.but (aj _ _ _ _) b6) (by omega) (a2.trans (But.setCell _ (a:=⟨bw,5,none⟩) ⟨hst.ge,hst.pw⟩ _))
    |ok r4 l2 s2=>
     rw[hn]at hq D;simp only at D;subst D;obtain⟨rfl,n9,o2,L⟩:=hq;clear HR hn;simp only[cW];have c5:=L.wk.c5;have z5:=L.wk.fz 5;have m5:=L.blt;have k6:w4.cell? ⟨bw,5,none⟩=some (.int .i64 ((d:Int)+1)):=by rw[c5];simp
     clear c5;have e3:But (· =bw) w4 (w4.setCell ⟨bw,5,none⟩ (.int .i64 (d:Int))):=aj _ _ _ _;have n7:=hid ((L.work (s':=s2) (d':=d) e3 rfl (L.wk.set5 _)).leave (P:=λk=>P k\/(w.heap.size<=k/\k<W1.heap.size)) (lv:=lv) (l:=l) (λk T=>T) (ag g3 e3 (λg hg e=>n3 (e▸hg))) k5.out);clear L;go_wp2_with fail;exact yB results187 rfl rfl n7.out (g5.but e3 b6) i1 (by omega) hst.old.size (λk T=>Or.inl T) (a2.trans (But.setCell _ (a:=⟨bw,5,none⟩) ⟨hst.ge,hst.pw⟩ _)) (v:=r4) rfl rfl
end
end Go.Proofs.YtpfkkmacakjmbaaGreatDoor
