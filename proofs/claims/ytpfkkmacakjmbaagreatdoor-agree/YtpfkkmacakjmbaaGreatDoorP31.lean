import Derived.Test.YtpfkkmacakjmbaaGreatDoorP30
set_option maxRecDepth 100000
set_option maxHeartbeats 6400000
set_option linter.all false
namespace Go.Proofs.YtpfkkmacakjmbaaGreatDoor
open Proofs.Tryz
section
open Go Go.RowKit Sp
attribute [local go_sem ↓] eF eG
theorem CA (tx:Nat) (inp:ByteArray) (w:World):
  Calls prog 86 #[.pointer (some ⟨tx,0,none⟩),.string inp] w λen w'=>en= .returned (.pointer (some ⟨w.heap.size,0,none⟩))/\w'=w.alloc (.cells #[.pointer (some ⟨tx,0,none⟩),.string inp,.int .i64 0,S_,S_,.int .i64 0] 211):=by
 go_in
 go_wp2_with fail;go_ret;exact⟨rfl,rfl⟩
theorem yQ {w:World} {bw tx base:Nat} {inp:ByteArray} {r:Int} {vo vb:Value} {o:L_} (h:XwB w bw tx inp r vo vb) (ho:w.ownsRow base 5 1 vo o.length (Lib.byteCells o)):
  Calls prog 89 #[.pointer (some ⟨bw,0,none⟩)] w λen w'=>en= .returned (.string ⟨o.toArray⟩)/\w'=w:=by
 have c3:=h.c3;have hl:=h.lt;have a:=iF (l:=o) ho;obtain⟨ao,cap,rfl⟩:=aA ho;clear h ho
 go_in
 go_wp2_with fail;go_ret;exact⟨rfl,rfl⟩
theorem vZ (e:Nat) (he:e=0\/(5<=e/\e<=10)) (w:World):
  Calls prog 59 #[.int .i64 (cr e)] w λen w'=>en= .returned (.int .i64 e)/\w'=w:=by
 have:e=0\/e=5\/e=6\/e=7\/e=8\/e=9\/e=10:=by omega
 obtain rfl|rfl|rfl|rfl|rfl|rfl|rfl:=this
 .rw[show cr _=0 from rfl]
  go_in
  go_wp2_with fail;go_ret;exact⟨rfl,rfl⟩
 .rw[show cr _=1 from rfl]
  go_in
  go_wp2_with fail;go_ret;exact⟨rfl,rfl⟩
 .rw[show cr _=2 from rfl]
  go_in
  go_wp2_with fail;go_ret;exact⟨rfl,rfl⟩
 .rw[show cr _=3 from rfl]
  go_in
  go_wp2_with fail;go_ret;exact⟨rfl,rfl⟩
 .rw[show cr _=4 from rfl]
  go_in
  go_wp2_with fail;go_ret;exact⟨rfl,rfl⟩
 .rw[show cr _=5 from rfl]
  go_in
  go_wp2_with fail;go_ret;exact⟨rfl,rfl⟩
 .rw[show cr _=6 from rfl]
  go_in
  go_wp2_with fail;go_ret;exact⟨rfl,rfl⟩
theorem AP {w0 w w2:World} {be bw tx bl:Nat} {inp:ByteArray} {fu:Nat} {lv:Value} {l:List V} (hB0:B_ w0 w) (he:XeB w be tx bw fu) (hw:XwB w bw tx inp 0 S_ S_) (hbe:w0.heap.size<=be) (hbw:w0.heap.size<=bw) (hB:B_ w w2) (hb:w2.heap[bl]?=some (.cells #[lv] 280)) (hr:w2.ownsRow w.heap.size 168 2 lv l.length (az l)) (hbl:w.heap.size<=bl):
  StQ (λ_=>False) w0 w2 be bw tx inp ⟨[],0,fu,[]⟩ bl lv l S_ S_ [] []:=by
 have a:=hB0.size;refine⟨hB0.trans hB,he.but hB (λh=>h),?_,jd _ _ _ _,jd _ _ _ _,rfl,rfl,λk o g v h=>by simp at h,λj k g h=>by simp at h,hb,dh hr a,λk hk=>⟨?_,λh=>h⟩,λk h=>h.elim,λv h=>by simp at h,λj k v v' g h=>by simp at h⟩
 .have:=hw.but hB (λh=>h);simpa using this
 .obtain rfl|rfl|rfl|hk|hk|hk|hk| ⟨v,hv,hk⟩:=hk
  .exact hbe
  .exact hbw
  .omega
  .cases hk
  .cases hk
  .have:=aC hr k hk;omega
  .simp at hk
  .simp at hv
theorem AQ (inp:ByteArray) (fu:Nat) (hfu:fu<=4000) (im:Img) (hR:eE im):(iM im inp fu).2.2=0\/(5<=(iM im inp fu).2.2/\(iM im inp fu).2.2<=10):=by
 obtain⟨bs,mb,a,j,i⟩:=hR.we.main;obtain⟨q,f⟩: ∃q,im.zj.length=q+1:=⟨bs.length,by rw[a];simp⟩
 have d:im.zj[q]?=some mb:=by
  have g:q=bs.length:=by rw[a]at f;simp at f;omega
  rw[g,a];simp
 have b:mb∈im.zj:=a9 d;rw[vw f d];have c:=hR.ty mb b;unfold fa at c
 cases h:cA im.zq im.zx mb.zy mb.code mb.code.length 0 with
 |none=>rw[h]at c;cases c
 |some t=>
  have HT:=fo hR inp fu 88000 mb 1 0 _ _ t _ b h (tM hR b) (oT im hfu) (bG _)
  cases hn:bC im inp fu mb 1 0 (aO mb []) ⟨[],0,fu,[]⟩with
  |bad e o=>rw[hn]at HT;exact Or.inr ⟨HT.1,HT.2.1⟩
  |ok v l s=>exact Or.inl rfl
def evQ (r:L_×Int×Nat):Ending:= .returned (.tuple #[.string ⟨r.1.toArray⟩,.int .i64 r.2.1,.int .i64 (cr r.2.2)])
theorem CB (w:World) (tx:Nat) (inp:ByteArray) (fu:Nat) (hfu:fu<=4000) (im:Img) (hT:eS w tx im) (hR:eE im) (hDo: ∀be bw f,jQ im inp w be bw tx f->DoC im inp w be bw tx f):
  Calls prog 61 #[.pointer (some ⟨tx,0,none⟩),.string inp,.int .i64 fu] w λen w'=>en=evQ (iM im inp fu)/\B_ w w':=by
 obtain⟨bs,mb,r,P,b0⟩:=hR.we.main;obtain⟨q,A⟩: ∃q,im.zj.length=q+1:=⟨bs.length,by rw[r];simp⟩
 have y:im.zj[q]?=some mb:=by
  have h1:q=bs.length:=by rw[r]at A;simp at A;omega
  rw[h1,r];simp
 have z:mb∈im.zj:=a9 y;have b7:=hR.wf.nb;obtain⟨RR,B⟩: ∃RR,iM im inp fu=RR:=⟨_,rfl⟩;rw[B];have F:Hid (RR=match bC im inp fu mb 1 0 (aO mb []) ⟨[],0,fu,[]⟩with| .bad e o=>(o,0,e) | .ok v _ s=>(s.out,v.N,0)):=by show _=_;rw[<-B];exact vw A y
 have d:=hR.ty mb z
 obtain⟨t,Q,b3⟩: ∃t,cA im.zq im.zx mb.zy mb.code mb.code.length 0=some t/\bR im.zq t 105=true:=by
  unfold fa at d
  cases h:cA im.zq im.zx mb.zy mb.code mb.code.length 0 with
  |none=>rw[h]at d;cases d
  |some t=>rw[h]at d;simp only at d;rw[if_pos (by rw[P];omega)]at d;exact⟨t,rfl,d⟩
 obtain⟨xbs,⟨v2,t2,a6,lb,hO,hm,hf⟩,c,b1⟩:=hT.bod;have D:lb.length=q+1:=by rw[<-A,<-c,<-hm];simp
 obtain⟨ao,capo,rfl⟩:=aA hO;rw[D]at t2;have b8:=dV (q:Int) (by omega) (by omega);obtain⟨W,l⟩: ∃W,(w.alloc (.cells #[.pointer (some ⟨tx,0,none⟩),.string inp,.int .i64 0,S_,S_,.int .i64 0] 211)).alloc (.cells #[.pointer (some ⟨tx,0,none⟩),.pointer (some ⟨w.heap.size,0,none⟩),.int .i64 fu] 164)=W:=⟨_,rfl⟩;have i:B_ w W:=by rw[<-l];exact(ag _ _ _).trans (ag _ _ _)
 have a7:XwB W w.heap.size tx inp 0 S_ S_:=by rw[<-l];exact((ag (λ_=>False) _ _).block _ (by simp) (λh=>h)).trans (bj w _)
 have M:XeB W (w.heap.size+1) tx w.heap.size fu:=by rw[<-l];exact aw (by simp) _
 have E:=hid (mK M i im hT q 1 mb y (hR.wf.bod mb z).loc.1 (by omega));rw[show((1:Nat):Int)=1 from rfl]at E;have t2W:=i.kc t2 a6;have b2:=aP a6 i.size;have T:=hid l;have a8:=hid (And.intro r (And.intro y (And.intro P B)));clear l hm D c b1 hf hO A r y P B d b0
 go_in
 go_wp2_with fail;refine(CA tx inp w).mono ?_;rintro en w1 ⟨rfl,rfl⟩;go_wp2_with fail;rw[T.out];clear T;refine E.out.mono ?_;rintro en w2 ⟨H,bl2,b4,X2,vl2,vi2,rfl,X,I,Z,a4,x,c,a1⟩;have O:mb.zy.map du=aO mb []:=by simp[aO]
 rw[O,show mb.zy.length=(aO mb []).length from by rw[<-O];simp]at x;have a5:=(AP (w0:=w) i M a7 (by omega) (by omega) X a4 x c).add I;have a2:FrS (λj=>False\/j=H) w w2 im mb H 1 X2 vl2 vi2 bl2:=⟨I,Or.inr rfl,Z⟩;have J:=tM hR z;have L:=oT im hfu;have G:=hid (fo hR inp fu 88000 mb 1 0 _ _ t _ z Q J L (bG _));have HC:=hid (Cz w (w.heap.size+1) w.heap.size tx inp im hR (hDo _ _) fu mb 1 0 _ _ t _ 88000 _ w2 bl2 b4 _ _ _ _ H X2 vl2 vi2 z (by omega) Q J L (bG _) a5 a2);rw[show((0:Nat):Int)=0 from rfl]at HC;clear E a5 a2 J L Q I Z a4 x c a1 O t2 t2W a7 M a8;have a0:=i.trans X;go_wp2_with fail;refine HC.out.mono ?_
 rintro en S ⟨Y,c6,b9,b6,b5,A⟩;have C:B_ w S:=a0.next Y (λk hk hf=>by have:=hf.1;omega);have g:=F.out;have b:=G.out;clear HC Y
 cases hn:bC im inp fu mb 1 0 (aO mb []) ⟨[],0,fu,[]⟩with
 |bad e o=>
  rw[hn]at A g b;simp only at g;subst g;obtain⟨rfl,s3,l3,ho,a⟩:=A;obtain⟨e1,e2⟩:=ja b.1 b.2.1;have c1:=a.ev.c1;have a3:=a.ev.lt;have HO:=hid (λob=>yQ (a.new (ag (λ_=>False) S ob)).wd (a.new (ag (λ_=>False) S ob)).out);rw[ho]at HO;have h1:=b.1;have h2:=b.2.1;clear a F G b hn;go_wp2_with fail;refine(HO.out _).mono ?_;rintro en w4 ⟨rfl,rfl⟩;go_wp2_with fail;exact cU (v:= .tuple #[.string ⟨o.toArray⟩,.int .i64 0,.int .i64 (cr e)]) (by simp[results,results61,go_sem]) rfl ⟨rfl,C.trans (ag _ _ _)⟩
 |ok v l3 s3=>
  rw[hn]at A g b;simp only at g;subst g;obtain⟨rfl,a⟩:=A;obtain⟨y1,y2,y3,y4,y5⟩:=b;obtain⟨m,rfl,m1,m2⟩:=(y1.sub hR.wf.cls hR.wf.nc y3.ht (t':=105) b3 (by decide)).int (by decide);have c1:=a.ev.c1;have a3:=a.ev.lt;have HO:=hid (λob n=>yQ (a.new ((ag (λ_=>False) S ob).trans (bp _ _ n))).wd (a.new ((ag (λ_=>False) S ob).trans (bp _ _ n))).out);clear a F G y1 y2 y3 y4 y5 hn;simp only[aI,xN,xO,V.N];go_wp2_with fail;have q1: ∀ob,(S.alloc ob).cell? ⟨w.heap.size+1,1,none⟩=some (.pointer (some ⟨w.heap.size,0,none⟩)):=λob=>((ag (λ_=>False) S ob).cell (p:=⟨w.heap.size+1,1,none⟩) a3 (λh=>h)).trans c1
  go_quiet (exact Calls.quiet_of_same (HO.out _ _))
  go_wp2_with fail;exact cU (v:= .tuple #[.string ⟨s3.out.toArray⟩,.int .i64 m,.int .i64 0]) (by simp[results,results61,go_sem]) rfl ⟨rfl,(C.trans (ag _ _ _)).trans (bp _ _ _)⟩
theorem AR (w:World) (tx:Nat) (inp:ByteArray) (fu:Nat) (h40:inp.size<=40) (hfu:fu<=4000) (im:Img) (hT:eS w tx im) (htab:fd w) (hR:eE im):
  Calls prog 61 #[.pointer (some ⟨tx,0,none⟩),.string inp,.int .i64 fu] w λen w'=>en=evQ (iM im inp fu)/\B_ w w':=
 CB w tx inp fu hfu im hT hR (λ_ _ _ IH=>DQ hT htab hR h40 IH)
/--The program's Eval does what the function says. -/
theorem sF (s inp:ByteArray) (fuel:Int) (w:World) (hmax:s.size<=maxLen) (htab:fd w):
  Calls prog 34 #[.string s,.string inp,.int .i64 fuel] w λen w'=>en= .returned (.tuple #[.string ⟨(iy s inp fuel).1.toArray⟩,.int .i64 (iy s inp fuel).2.1,.int .i64 (iy s inp fuel).2.2])/\B_ w w':=by
 obtain⟨RR,a⟩: ∃RR,iy s inp fuel=RR:=⟨_,rfl⟩;rw[a]
 by_cases hg:40<inp.size\/fuel<0\/4000<fuel
 .have c:RR=([],0,1):=by rw[<-a];unfold iy;rw[if_pos hg]
  subst c;clear a
  by_cases g1:40<(inp.size:Int)
  .go_in
   go_wp2_with fail;exact cU (v:= .tuple #[.string ⟨#[]⟩,.int .i64 0,.int .i64 1]) (by simp[results,results34,go_sem]) rfl ⟨rfl,cq _ _⟩
  .by_cases g2:fuel<0
   .clear hg
    go_in
    go_wp2_with fail;exact cU (v:= .tuple #[.string ⟨#[]⟩,.int .i64 0,.int .i64 1]) (by simp[results,results34,go_sem]) rfl ⟨rfl,cq _ _⟩
   .have y:4000<fuel:=by omega
    clear hg
    go_in
    go_wp2_with fail;exact cU (v:= .tuple #[.string ⟨#[]⟩,.int .i64 0,.int .i64 1]) (by simp[results,results34,go_sem]) rfl ⟨rfl,cq _ _⟩
 .obtain⟨fu,rfl⟩: ∃fu:Nat,fuel=fu:=⟨fuel.toNat,by omega⟩;have g1: ¬40<(inp.size:Int):=by omega
  have g2: ¬(fu:Int)<0:=by omega
  have y: ¬4000<(fu:Int):=by omega
  have key:Calls prog 60 #[.string s] w λen w'=>B_ w w'/\((∃(e:Nat) (p:Int),en= .returned (.agg #[.int .i64 e,.int .i64 p,.pointer none,S_])/\0<e/\RR=([],0,e))\/ ∃im g,en= .returned (.agg #[.int .i64 0,.int .i64 0,.pointer (some ⟨g,0,none⟩),S_])/\eS w' g im/\eE im/\RR=iM im inp fu):=by
   refine(j8 s w hmax).mono ?_;rintro en w' ⟨B,d⟩;refine⟨B,?_⟩;unfold mG at d;unfold iy at a;rw[if_neg hg]at a
   cases hl:dM s with
   |error e=>
    rw[hl]at d a;obtain⟨e,p⟩:=e;exact Or.inl ⟨e,p,d,(nJ hl).1,a.symm⟩
   |ok im=>
    rw[hl]at d a;simp only at d a
    have q:s.size<=2000:=by
     unfold dM at hl
     split at hl
     .cases hl
     .omega
    cases ht:im.zj.findIdx? (λb=> !fa im b)with
    |some k=>
     rw[ht]at d;have l:dN s=(4,k):=by unfold dN;rw[hl];simp only[ht]
     rw[l]at a;exact Or.inl ⟨4,k,d,by omega,by rw[<-a];rfl⟩
    |none=>
     rw[ht]at d;obtain⟨g,z,D,A⟩:=d;have l:(dN s).1=0:=by unfold dN;rw[hl];simp only[ht]
     rw[if_pos l]at a;exact Or.inr ⟨im,g,z,A,jM q hl l,by rw[<-a];simp⟩
  have r:=hid key;clear key a
  go_in
  go_wp2_with fail;refine r.out.mono ?_;rintro en w1 ⟨f,n⟩;clear r;obtain⟨e,p,rfl,E,rfl⟩ | ⟨im,g,rfl,j,x,c⟩:=n
  .have C:((e:Int)!=0)=true:=by rw[bne_iff_ne];omega
   go_wp2_with fail
   go_quiet (fail)
   go_wp2_with fail;exact cU (v:= .tuple #[.string ⟨#[]⟩,.int .i64 0,.int .i64 e]) (by simp[results,results34,go_sem]) rfl ⟨rfl,(f.trans (ag _ _ _)).trans (bp _ _ _)⟩
  .have i:=hid (λob=>AR (w1.alloc ob) g inp fu (by omega) (by omega) im (j.but (ag (λ_=>False) w1 ob)) ((htab.but f).but (ag _ w1 ob)) x);have h:=AQ inp fu (by omega) im x;rw[<-c]at i h;have t:=hid h;clear j c h;obtain⟨o,v,e⟩:=RR;unfold evQ at i;dsimp only at i t;go_wp2_with fail;refine(i.out _).mono ?_;rintro en w2 ⟨rfl,m⟩;clear i;go_wp2_with fail;refine(vZ e t.out w2).mono ?_;rintro en F ⟨rfl,rfl⟩;go_wp2_with fail;exact cU (v:= .tuple #[.string ⟨o.toArray⟩,.int .i64 v,.int .i64 e]) (by simp[results,results34,go_sem]) rfl ⟨rfl,(f.trans (ag _ _ _)).trans m⟩
end
end Go.Proofs.YtpfkkmacakjmbaaGreatDoor
