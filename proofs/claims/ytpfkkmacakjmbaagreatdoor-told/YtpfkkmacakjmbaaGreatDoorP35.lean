import Derived.Test.YtpfkkmacakjmbaaGreatDoorP34
import Derived.Test.YtpfkkmacakjmbaaGreatDoorP25
set_option maxRecDepth 100000
set_option maxHeartbeats 6400000
set_option linter.unusedSimpArgs false
set_option linter.unusedVariables false
namespace Go.Proofs.YtpfkkmacakjmbaaGreatDoor
section
open Go Go.RowKit Sp
attribute [local go_sem ↓] Go.wp_at_zero Go.wp_at_succ
theorem yS (tx:Nat) (inp:ByteArray) (w:World):
  Calls Tryz.prog 86 #[.pointer (some ⟨tx,0,none⟩),.string inp] w fun en w'=>en= .returned (.pointer (some ⟨w.heap.size,0,none⟩))∧w'=w.alloc (.cells #[.pointer (some ⟨tx,0,none⟩),.string inp,.int .i64 0,.slice none 0 0,.slice none 0 0,.int .i64 0] 211):=by
 go_in
 go_wp2_with fail;go_ret;exact⟨rfl,rfl⟩
theorem uU {w:World} {bw tx base:Nat} {inp:ByteArray} {r:Int} {vo vb:Value} {o:List UInt8} (h:XwB w bw tx inp r vo vb) (ho:w.ownsRow base 5 1 vo o.length (Lib.byteCells o)):
  Calls Tryz.prog 89 #[.pointer (some ⟨bw,0,none⟩)] w fun en w'=>en= .returned (.string ⟨o.toArray⟩)∧w'=w:=by
 have c3:=h.c3;have hl:=h.lt;have a0:=fo (l:=o) ho;obtain⟨ao,cap,rfl⟩:=aw ho;clear h ho
 go_in
 go_wp2_with fail;go_ret;exact⟨rfl,rfl⟩
theorem sK (e:Nat) (he:e=0∨(5≤e∧e≤10)) (w:World):
  Calls Tryz.prog 59 #[.int .i64 (bK e)] w fun en w'=>en= .returned (.int .i64 e)∧w'=w:=by
 have:e=0∨e=5∨e=6∨e=7∨e=8∨e=9∨e=10:=by omega
 rcases this with rfl|rfl|rfl|rfl|rfl|rfl|rfl
 ·rw[show bK _=0 from rfl]
  go_in
  go_wp2_with fail;go_ret;exact⟨rfl,rfl⟩
 ·rw[show bK _=1 from rfl]
  go_in
  go_wp2_with fail;go_ret;exact⟨rfl,rfl⟩
 ·rw[show bK _=2 from rfl]
  go_in
  go_wp2_with fail;go_ret;exact⟨rfl,rfl⟩
 ·rw[show bK _=3 from rfl]
  go_in
  go_wp2_with fail;go_ret;exact⟨rfl,rfl⟩
 ·rw[show bK _=4 from rfl]
  go_in
  go_wp2_with fail;go_ret;exact⟨rfl,rfl⟩
 ·rw[show bK _=5 from rfl]
  go_in
  go_wp2_with fail;go_ret;exact⟨rfl,rfl⟩
 ·rw[show bK _=6 from rfl]
  go_in
  go_wp2_with fail;go_ret;exact⟨rfl,rfl⟩
theorem wO {w0 w w2:World} {be bw tx bl:Nat} {inp:ByteArray} {fu:Nat} {lv:Value} {l:List V} (hB0:But (fun _=>False) w0 w) (he:XeB w be tx bw fu) (hw:XwB w bw tx inp 0 (.slice none 0 0) (.slice none 0 0)) (hbe:w0.heap.size≤be) (hbw:w0.heap.size≤bw) (hB:But (fun _=>False) w w2) (hb:w2.heap[bl]?=some (.cells #[lv] 280)) (hr:w2.ownsRow w.heap.size 168 2 lv l.length (au l)) (hbl:w.heap.size≤bl):
  StQ (fun _=>False) w0 w2 be bw tx inp ⟨[],0,fu,[]⟩ bl lv l (.slice none 0 0) (.slice none 0 0) [] []:=by
 have h0:=hB0.size;refine⟨hB0.trans hB,he.but hB (fun h=>h),?_,fN _ _ _ _,fN _ _ _ _,rfl,rfl,fun k o g v h=>by simp at h,fun j k g h=>by simp at h,hb,World.ownsRow.mono hr h0,fun k hk=>⟨?_,fun h=>h⟩,fun k h=>h.elim,fun v h=>by simp at h,fun j k v v' g h=>by simp at h⟩
 ·have:=hw.but hB (fun h=>h);simpa using this
 ·rcases hk with rfl|rfl|rfl|hk|hk|hk|hk| ⟨v,hv,hk⟩
  ·exact hbe
  ·exact hbw
  ·omega
  ·cases hk
  ·cases hk
  ·have:=aA hr k hk;omega
  ·simp at hk
  ·simp at hv
theorem wP (inp:ByteArray) (fu:Nat) (hfu:fu≤4000) (im:Img) (hR:dB im):(kK im inp fu).2.2=0∨(5≤(kK im inp fu).2.2∧(kK im inp fu).2.2≤10):=by
 obtain⟨bs,mb,a0,a5,a4⟩:=hR.we.main;obtain⟨q,hq⟩: ∃q,im.bodies.length=q+1:=⟨bs.length,by rw[a0];simp⟩
 have a3:im.bodies[q]?=some mb:=by
  have h1:q=bs.length:=by rw[a0]at hq;simp at hq;omega
  rw[h1,a0];simp
 have a1:mb∈im.bodies:=List.mem_of_getElem? a3;rw[rW hq a3];have a2:=hR.ty mb a1;unfold fP at a2
 cases h:bY im.classes im.sigs mb.locals mb.code mb.code.length 0 with
 |none=>rw[h]at a2;cases a2
 |some t=>
  have HT:=eu hR inp fu 88000 mb 1 0 _ _ t _ a1 h (uP hR a1) (pm im hfu) (Nat.le_refl _)
  cases hn:bJ im inp fu mb 1 0 (aX mb []) ⟨[],0,fu,[]⟩with
  |bad e o=>rw[hn]at HT;exact Or.inr ⟨HT.1,HT.2.1⟩
  |ok v l s=>exact Or.inl rfl
def evQ (r:List UInt8×Int×Nat):Ending:= .returned (.tuple #[.string ⟨r.1.toArray⟩,.int .i64 r.2.1,.int .i64 (bK r.2.2)])
theorem wQ (w:World) (tx:Nat) (inp:ByteArray) (fu:Nat) (h40:inp.size≤40) (hfu:fu≤4000) (im:Img) (hT:dC w tx im) (htab:dc w) (hR:dB im):
  Calls Tryz.prog 61 #[.pointer (some ⟨tx,0,none⟩),.string inp,.int .i64 fu] w fun en w'=>en=evQ (kK im inp fu)∧But (fun _=>False) w w':=by
 obtain⟨bs,mb,a9,e7,g1⟩:=hR.we.main;obtain⟨q,hq⟩: ∃q,im.bodies.length=q+1:=⟨bs.length,by rw[a9];simp⟩
 have b1:im.bodies[q]?=some mb:=by
  have h1:q=bs.length:=by rw[a9]at hq;simp at hq;omega
  rw[h1,a9];simp
 have b2:mb∈im.bodies:=List.mem_of_getElem? b1;have h0:=hR.wf.nb;obtain⟨RR,b3⟩: ∃RR,kK im inp fu=RR:=⟨_,rfl⟩;rw[b3];have b5:Hid (RR=match bJ im inp fu mb 1 0 (aX mb []) ⟨[],0,fu,[]⟩with| .bad e o=>(o,0,e) | .ok v _ s=>(s.out,v.N,0)):=by show _=_;rw[←b3];exact rW hq b1
 have a3:=hR.ty mb b2
 obtain⟨t,e8,g4⟩: ∃t,bY im.classes im.sigs mb.locals mb.code mb.code.length 0=some t∧bP im.classes t 105=true:=by
  unfold fP at a3
  cases h:bY im.classes im.sigs mb.locals mb.code mb.code.length 0 with
  |none=>rw[h]at a3;cases a3
  |some t=>rw[h]at a3;simp only at a3;rw[if_pos (by rw[e7];omega)]at a3;exact⟨t,rfl,a3⟩
 obtain⟨xbs,⟨v2,t2,f7,lb,hO,hm,hf⟩,a0,g2⟩:=hT.bod;have b0:lb.length=q+1:=by rw[←hq,←a0,←hm];simp
 obtain⟨ao,capo,rfl⟩:=aw hO;rw[b0]at t2;have h3:=dF (q:Int) (by omega) (by omega);obtain⟨W,a8⟩: ∃W,(w.alloc (.cells #[.pointer (some ⟨tx,0,none⟩),.string inp,.int .i64 0,.slice none 0 0,.slice none 0 0,.int .i64 0] 211)).alloc (.cells #[.pointer (some ⟨tx,0,none⟩),.pointer (some ⟨w.heap.size,0,none⟩),.int .i64 fu] 164)=W:=⟨_,rfl⟩;have a6:But (fun _=>False) w W:=by rw[←a8];exact(But.alloc _ _ _).trans (But.alloc _ _ _)
 have f8:XwB W w.heap.size tx inp 0 (.slice none 0 0) (.slice none 0 0):=by rw[←a8];exact((But.alloc (fun _=>False) _ _).block _ (by simp) (fun h=>h)).trans (heap_alloc_new w _)
 have e5:XeB W (w.heap.size+1) tx w.heap.size fu:=by rw[←a8];exact aq (by simp) _
 have b4:=hid (ki e5 a6 im hT q 1 mb b1 (hR.wf.bod mb b2).loc.1 (by omega));rw[show((1:Nat):Int)=1 from rfl]at b4;have t2W:=a6.kc t2 f7;have g3:=Nat.lt_of_lt_of_le f7 a6.size;have e9:=hid a8;have g0:=hid (And.intro a9 (And.intro b1 (And.intro e7 b3)));clear a8 hm b0 a0 g2 hf hO hq a9 b1 e7 b3 a3 g1
 go_in
 go_wp2_with fail;refine(yS tx inp w).mono ?_;rintro en w1 ⟨rfl,rfl⟩;go_wp2_with fail;rw[e9.out];clear e9;refine b4.out.mono ?_;rintro en w2 ⟨b9,bl2,g5,X2,vl2,vi2,rfl,f0,d6,f2,f5,a4,a0,e4⟩;have e6:mb.locals.map cB=aX mb []:=by simp[aX]
 rw[e6,show mb.locals.length=(aX mb []).length from by rw[←e6];simp]at a4;have f6:=(wO (w0:=w) a6 e5 f8 (by omega) (by omega) f0 f5 a4 a0).add d6;have f3:FrS (fun j=>False∨j=b9) w w2 im mb b9 1 X2 vl2 vi2 bl2:=⟨d6,Or.inr rfl,f2⟩;have e0:=uP hR b2;have e3:=pm im hfu;have b6:=hid (eu hR inp fu 88000 mb 1 0 _ _ t _ b2 e8 e0 e3 (Nat.le_refl _));have HC:=hid (yR w (w.heap.size+1) w.heap.size tx inp h40 im hT htab hR fu mb 1 0 _ _ t _ 88000 _ w2 bl2 g5 _ _ _ _ b9 X2 vl2 vi2 b2 (by omega) e8 e0 e3 (Nat.le_refl _) f6 f3);rw[show((0:Nat):Int)=0 from rfl]at HC;clear b4 f6 f3 e0 e3 e8 d6 f2 f5 a4 a0 e4 e6 t2 t2W f8 e5 g0
 have c6:=a6.trans f0;go_wp2_with fail;refine HC.out.mono ?_;rintro en w3 ⟨f1,h5,h4,g7,g6,hq⟩;have a7:But (fun _=>False) w w3:=c6.next f1 (fun k hk hf=>by have:=hf.1;omega);have a5:=b5.out;have a2:=b6.out;clear HC f1
 cases hn:bJ im inp fu mb 1 0 (aX mb []) ⟨[],0,fu,[]⟩with
 |bad e o=>
  rw[hn]at hq a5 a2;simp only at a5;subst a5;obtain⟨rfl,s3,l3,ho,a1⟩:=hq;obtain⟨e1,e2⟩:=fK a2.1 a2.2.1;have c1:=a1.ev.c1;have f4:=a1.ev.lt;have HO:=hid (fun ob=>uU (a1.new (But.alloc (fun _=>False) w3 ob)).wd (a1.new (But.alloc (fun _=>False) w3 ob)).out);rw[ho]at HO;have h1:=a2.1;have h2:=a2.2.1;clear a1 b5 b6 a2 hn;go_wp2_with fail;refine(HO.out _).mono ?_;rintro en w4 ⟨rfl,rfl⟩;go_wp2_with fail;exact bodyPost_ret (v:= .tuple #[.string ⟨o.toArray⟩,.int .i64 0,.int .i64 (bK e)]) (by simp[results,Tryz.results61,go_sem]) rfl ⟨rfl,a7.trans (But.alloc _ _ _)⟩
 |ok v l3 s3=>
  rw[hn]at hq a5 a2;simp only at a5;subst a5;obtain⟨rfl,a1⟩:=hq;obtain⟨y1,y2,y3,y4,y5⟩:=a2;obtain⟨m,rfl,m1,m2⟩:=(y1.sub hR.wf.cls hR.wf.nc y3.ht (t':=105) g4 (by decide)).int (by decide);have c1:=a1.ev.c1;have f4:=a1.ev.lt;have HO:=hid (fun ob n=>uU (a1.new ((But.alloc (fun _=>False) w3 ob).trans (But.drewN _ _ n))).wd (a1.new ((But.alloc (fun _=>False) w3 ob).trans (But.drewN _ _ n))).out);clear a1 b5 b6 y1 y2 y3 y4 y5 hn;simp only[aG,xN,xO,V.N];go_wp2_with fail;have q1: ∀ob,(w3.alloc ob).cell? ⟨w.heap.size+1,1,none⟩=some (.pointer (some ⟨w.heap.size,0,none⟩)):=fun ob=>((But.alloc (fun _=>False) w3 ob).cell (p:=⟨w.heap.size+1,1,none⟩) f4 (fun h=>h)).trans c1
  go_quiet (exact Calls.quiet_of_same (HO.out _ _))
  go_wp2_with fail;exact bodyPost_ret (v:= .tuple #[.string ⟨s3.out.toArray⟩,.int .i64 m,.int .i64 0]) (by simp[results,Tryz.results61,go_sem]) rfl ⟨rfl,(a7.trans (But.alloc _ _ _)).trans (But.drewN _ _ _)⟩
/--The program's Eval does what the function says. -/
theorem pE (s inp:ByteArray) (fuel:Int) (w:World) (hmax:s.size≤maxLen) (htab:dc w):
  Calls Tryz.prog 34 #[.string s,.string inp,.int .i64 fuel] w fun en w'=>en= .returned (.tuple #[.string ⟨(gy s inp fuel).1.toArray⟩,.int .i64 (gy s inp fuel).2.1,.int .i64 (gy s inp fuel).2.2])∧But (fun _=>False) w w':=by
 obtain⟨RR,a0⟩: ∃RR,gy s inp fuel=RR:=⟨_,rfl⟩;rw[a0]
 by_cases hg:40<inp.size∨fuel<0∨4000<fuel
 ·have a1:RR=([],0,1):=by rw[←a0];unfold gy;rw[if_pos hg]
  subst a1;clear a0
  by_cases g1:40<(inp.size:Int)
  ·go_in
   go_wp2_with fail;exact bodyPost_ret (v:= .tuple #[.string ⟨#[]⟩,.int .i64 0,.int .i64 1]) (by simp[results,Tryz.results34,go_sem]) rfl ⟨rfl,But.refl _ _⟩
  ·by_cases g2:fuel<0
   ·clear hg
    go_in
    go_wp2_with fail;exact bodyPost_ret (v:= .tuple #[.string ⟨#[]⟩,.int .i64 0,.int .i64 1]) (by simp[results,Tryz.results34,go_sem]) rfl ⟨rfl,But.refl _ _⟩
   ·have g3:4000<fuel:=by omega
    clear hg
    go_in
    go_wp2_with fail;exact bodyPost_ret (v:= .tuple #[.string ⟨#[]⟩,.int .i64 0,.int .i64 1]) (by simp[results,Tryz.results34,go_sem]) rfl ⟨rfl,But.refl _ _⟩
 ·obtain⟨fu,rfl⟩: ∃fu:Nat,fuel=fu:=⟨fuel.toNat,by omega⟩;have g1: ¬40<(inp.size:Int):=by omega
  have g2: ¬(fu:Int)<0:=by omega
  have g3: ¬4000<(fu:Int):=by omega
  have key:Calls Tryz.prog 60 #[.string s] w fun en w'=>But (fun _=>False) w w'∧((∃(e:Nat) (p:Int),en= .returned (.agg #[.int .i64 e,.int .i64 p,.pointer none,.slice none 0 0])∧0<e∧RR=([],0,e))∨ ∃im g,en= .returned (.agg #[.int .i64 0,.int .i64 0,.pointer (some ⟨g,0,none⟩),.slice none 0 0])∧dC w' g im∧dB im∧RR=kK im inp fu):=by
   refine(gY s w hmax).mono ?_;rintro en w' ⟨hB,hE⟩;refine⟨hB,?_⟩;unfold ke at hE;unfold gy at a0;rw[if_neg hg]at a0
   cases hl:dR s with
   |error e=>
    rw[hl]at hE a0;obtain⟨e,p⟩:=e;exact Or.inl ⟨e,p,hE,(iF hl).1,a0.symm⟩
   |ok im=>
    rw[hl]at hE a0;simp only at hE a0
    have a7:s.size≤2000:=by
     unfold dR at hl
     split at hl
     ·cases hl
     ·omega
    cases ht:im.bodies.findIdx? (fun b=> !fP im b)with
    |some k=>
     rw[ht]at hE;have h4:di s=(4,k):=by unfold di;rw[hl];simp only[ht]
     rw[h4]at a0;exact Or.inl ⟨4,k,hE,by omega,by rw[←a0];rfl⟩
    |none=>
     rw[ht]at hE;obtain⟨g,h1,h2,h3⟩:=hE;have h4:(di s).1=0:=by unfold di;rw[hl];simp only[ht]
     rw[if_pos h4]at a0;exact Or.inr ⟨im,g,h1,h3,rV a7 hl h4,by rw[←a0];simp⟩
  have HK:=hid key;clear key a0
  go_in
  go_wp2_with fail;refine HK.out.mono ?_;rintro en w1 ⟨a2,a6⟩;clear HK;rcases a6 with⟨e,p,rfl,he,rfl⟩ | ⟨im,g,rfl,a4,hR,a1⟩
  ·have a8:((e:Int)!=0)=true:=by rw[bne_iff_ne];omega
   go_wp2_with fail
   go_quiet (fail)
   go_wp2_with fail;exact bodyPost_ret (v:= .tuple #[.string ⟨#[]⟩,.int .i64 0,.int .i64 e]) (by simp[results,Tryz.results34,go_sem]) rfl ⟨rfl,(a2.trans (But.alloc _ _ _)).trans (But.drewN _ _ _)⟩
  ·have HE:=hid (fun ob=>wQ (w1.alloc ob) g inp fu (by omega) (by omega) im (a4.but (But.alloc (fun _=>False) w1 ob)) ((htab.but a2).but (But.alloc _ w1 ob)) hR);have a3:=wP inp fu (by omega) im hR;rw[←a1]at HE a3;have HV:=hid a3;clear a4 a1 a3;obtain⟨o,v,e⟩:=RR;unfold evQ at HE;dsimp only at HE HV;go_wp2_with fail;refine(HE.out _).mono ?_;rintro en w2 ⟨rfl,a5⟩;clear HE;go_wp2_with fail;refine(sK e HV.out w2).mono ?_;rintro en w3 ⟨rfl,rfl⟩;go_wp2_with fail;exact bodyPost_ret (v:= .tuple #[.string ⟨o.toArray⟩,.int .i64 v,.int .i64 e]) (by simp[results,Tryz.results34,go_sem]) rfl ⟨rfl,(a2.trans (But.alloc _ _ _)).trans a5⟩
end
end Go.Proofs.YtpfkkmacakjmbaaGreatDoor
