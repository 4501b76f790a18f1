import Derived.Test.YtpfkkmacakjmbaaGreatDoorP09
set_option maxRecDepth 100000
set_option maxHeartbeats 6400000
set_option linter.all false
namespace Go.Proofs.YtpfkkmacakjmbaaGreatDoor
open Proofs.Tryz
section
open Go Go.RowKit Sp
attribute [local go_sem ↓] eF eG
theorem zQ:(prog.info? 115).map (λi=>(i.zero,i.size,i.bytes))=some (some (.agg #[.int .u8 0,.int .i64 0,.int .u8 0,S_,S_]),5,72):=by kernel_rfl
theorem ku:(prog.info? 219).map (λi=>(i.zero,i.size,i.bytes))=some (some (.agg #[.int .i64 0,.int .u8 0,.int .u8 0,.int .i64 0,S_]),5,48):=by kernel_rfl
theorem uY (l:List XIt): ∀u∈cd l,u.oneCell'=true:=by
 intro u a;obtain⟨x,_,hx⟩:=List.mem_flatMap.1 a;simp only[List.mem_cons,List.not_mem_nil,or_false]at hx;obtain h|h|h|h|h:=hx<;>(rw[h];rfl)
theorem tz (w:World) (ty:TypeId) (base bx:Nat) (v xv:Value) (m:List XIt) (hown:ItB w base v []) (hx:ItB w bx xv m) (hlen:m.length<=100000) (hbase:base<=w.heap.size):
  ∃v' w',(Builtin.append_ #[113,113] ty #[v,xv]).run prog w= .ok v' w'/\ItB w' base v' m/\But (λk=>v.ownBlock=some k) w w'/\(v'.ownBlock=v.ownBlock\/v'.ownBlock=some w.heap.size):=by
 obtain⟨q,c,n,d,p⟩:=info_parts ku;have l:prog.underlying 113=some (.slice 219):=by kernel_rfl
 obtain⟨ax,cx,rfl⟩:=aA hx
 cases ax with
 |none=>
  have hm:m.length=0:=by
   obtain h|h:=Nat.eq_zero_or_pos m.length
   .exact h
   .obtain⟨g,x,_⟩:=aL hx h
    cases x
  have i:m=[]:=List.length_eq_zero_iff.1 hm;subst i
  have hc: ∃ao cap,v= .slice ao 0 cap:=by
   obtain⟨ao,cap,h⟩:=aA hown;exact⟨ao,cap,h⟩
  obtain⟨ao,cap,rfl⟩:=hc;refine⟨_,w,run_append_nothing w _ _ ty 219 q l c ao 0 cap (by omega) _ (by rw[d];exact Src.ofNil w l cx),hown,cq _ _,Or.inl rfl⟩
 |some ad=>
  have b: ∀j u,(cd m)[j]?=some u->w.cell? (ad.add j)=some u:=by
   intro j u y;obtain⟨g,cap',A,hc,_⟩:=ki hx y
   have r:ad=⟨g,0,none⟩:=by
    have f:=congrArg (λv=>match v with|Value.slice a _ _=>a|_=>none) A;exact Option.some.inj f
   rw[r];have e:(⟨g,0,none⟩:Addr).add j=⟨g,j,none⟩:=by simp[Addr.add];exact λh=>h.symm
   rw[e];exact hc
  obtain⟨v',w',z,f,s,_,t⟩:=run_append_own_at (P:=prog) w base _ ty 219 q _ 5 48 l c n d p rfl (by omega) v 0 (cd []) hown ad m.length cx (cd m) (uU m) b (uY m) (by unfold maxLen;omega) (by omega) hbase;refine⟨v',w',z,?_,bD s,t⟩;unfold ItB;rw[Nat.zero_add]at f;exact f
theorem lj {w:World} {ops:Array Oper} {rest:List Oper} {o:Oper} {a:Act} {Q:Exit->Act->World->Prop} (hgd:o.guard=none) (s x:Operand)
  (ho:o.op= .call {callee:= .builtin .append,args:=#[s,x],argTypes:=#[113,113]}) (base bx:Nat) (v xv:Value) (m:List XIt) (hs:a.eval s=v) (hx:a.eval x=xv) (hown:ItB w base v []) (hxo:ItB w bx xv m) (hlen:m.length<=100000) (hbase:base<=w.heap.size)
  (h: ∀ao cap w',ItB w' base (.slice ao m.length cap) m->But (λk=>v.ownBlock=some k) w w'->wpList prog ops Q rest (a.put o.dst (.slice ao m.length cap)) w'):wpList prog ops Q (o::rest) a w:=by
 refine wpList_plain hgd λK hK=> ?_
 obtain⟨v',w',d,b,c,e⟩:=tz w o.type base bx v xv m hown hxo hlen hbase;obtain⟨ao,cap,rfl⟩:=aA b;unfold Oper.wp execOp;simp only[ho,resolve,invoke,builtin,Sem.run_bind,Sem.run_pure,Result.andThen_ok,List.map_toArray,List.map_cons,List.map_nil,hs,hx,d];exact hK _ _ (h ao cap w' b c)
theorem ItB.empty (w:World):ItB (w.alloc (.cells #[] 219)) w.heap.size (.slice (some ⟨w.heap.size,0,none⟩) 0 0) []:=
 ⟨rfl,Or.inr ⟨w.heap.size,0,#[],rfl,bG _,bj w _,by simp,by unfold maxLen;omega,rfl,rfl⟩⟩
theorem iV (b base bx:Nat) (s:ByteArray) (i:Nat) (bad mn:Bool) (v0 v1 vi:Value) (a2:Option Addr) (cap2:Nat) (bs:List bK) (X:bK) (al ai:Option Addr) (capl capi:Nat) (w:World) (hnb:bs.length<=7) (hni:X.items.length<=100) (hs:s.size<=2000)
  (hR:XrB w b s i bad v0 v1 ⟨.slice a2 bs.length cap2,.int .u8 X.cls.toNat,.int .i64 X.meth,.int .u8 X.ans.toNat,.slice al X.zy.length capl,vi,mn⟩) (hT:TbV w base (.slice a2 bs.length cap2) bs) (hl:BtB w base (.slice al X.zy.length capl) X.zy) (hi:ItB w bx (.slice ai X.items.length capi) X.items) (hb:b<base) (hbx:b<bx) (hbase:base<=w.heap.size):
  Calls prog 102 #[.pointer (some ⟨b,0,none⟩),.slice ai X.items.length capi] w λen w'=>en= .returned (.tuple #[])/\But (λk=>k=b\/(Value.slice a2 bs.length cap2).ownBlock=some k) w w'/\
   ∃a2' cap2' vi',XrB w' b s (tkP s 46 i bad).1 (tkP s 46 i bad).2 v0 v1 ⟨.slice a2' (bs++ [X]).length cap2',.int .u8 X.cls.toNat,.int .i64 X.meth,.int .u8 X.ans.toNat,.slice al X.zy.length capl,vi',mn⟩/\TbV w' base (.slice a2' (bs++ [X]).length cap2') (bs++ [X]):=by
 obtain⟨i0,a8,b2,b3,b5⟩:=info_parts zQ;obtain⟨l,S,hm,hf⟩:=hT;have L:l.length=bs.length:=by rw[<-hm];simp
 have a1:=hid L;rw[<-L]at hR S hnb⊢;clear L;have b9:=hR.lt;have E:=eJ b s i bad _ _ _ _ 46 (by decide) hs hR;obtain⟨TK,a0⟩: ∃TK,tkP s 46 i bad=TK:=⟨_,rfl⟩;rw[a0]at E⊢;clear a0;obtain⟨j1,a4⟩:=TK;dsimp only at E⊢;have M:=hid E;clear E
 go_in
 go_wp2_with fail;refine M.out.mono ?_;rintro en w1 ⟨rfl,H,J⟩;have Q:ItB w1 bx (.slice ai X.items.length capi) X.items:=ah hi H (λg c h=>by have:=aC hi g c;omega);have b4:=H.size;have hE:=ItB.empty w1;have Z:=J.but (ag (λ_=>False) w1 (.cells #[] 219)) (λh=>h);go_wp2_with (at_builtin;refine lj rfl _ _ rfl w1.heap.size bx _ _ X.items rfl rfl hE (ah Q (ag (λ_=>False) _ _) (λ_ _ h=>h)) (by omega) (by simp) ?_);intro ao cap w2 I O;have r:B_ w1 w2:=(ag (λ_=>False) _ _).next O (λk hk h=>by simp[Value.ownBlock]at h;omega);have B:=J.but r (λh=>h);have c7:=B.d4;have g7:=B.fz 7
 have b6:=r.size;clear Q hE Z;go_wp2_with fail;have C:=B.setI (.slice ao X.items.length cap);have y:But (· =b) w2 (w2.setCell ⟨b,7,none⟩ (.slice ao X.items.length cap)):=aq _ _ _ _;have A:ItB (w2.setCell ⟨b,7,none⟩ (.slice ao X.items.length cap)) w1.heap.size (.slice ao X.items.length cap) X.items:=ah I y (λg c h=>by have:=aC I g c;omega);have j:But (· =b) w (w2.setCell ⟨b,7,none⟩ (.slice ao X.items.length cap)):=(H.next r (λ_ _ h=>h.elim)).trans y;revert C A j;generalize (w2.setCell ⟨b,7,none⟩ (.slice ao X.items.length cap))=W;intro d A j;have b0:ItB W base (.slice ao X.items.length cap) X.items:=dh A (by omega)
 clear y A I O c7 g7 B J hi;dsimp only at d;have Y:=ah S j (λg c h=>by have:=aC S g c;omega);have d6:=bB S;have e2:=d.c2;have e3:=d.d0;have e4:=d.d1;have e5:=d.d2;have e6:=d.d3;have e7:=d.d4;have g2:=d.fz 2;have bltW:=d.lt;dsimp only at e2 e3 e4 e5 e6 e7;have ab:(Value.slice a2 l.length cap2).ownBlock≠some b:=λh=>by have:=aC S _ h;omega
 have a7:But (λk=>(Value.slice a2 l.length cap2).ownBlock=some k) W W.drew:=aD _ _;have b8:base<=W.heap.size:=by have:=j.size;omega
 have HM:=hid hm;clear hm M;refine aF (But (λk=>(Value.slice a2 l.length cap2).ownBlock=some k) W) 12 ?_
 iterate 10 (refine aN (v:=?_) rfl a7 ?_ ?_;rotate_left;(focus (intro wS h;have q0:=((h.cell (p:=⟨b,2,none⟩) bltW ab).trans e2);have q1:=((h.cell (p:=⟨b,3,none⟩) bltW ab).trans e3);have q2:=((h.cell (p:=⟨b,4,none⟩) bltW ab).trans e4);have q3:=((h.cell (p:=⟨b,5,none⟩) bltW ab).trans e5);have q4:=((h.cell (p:=⟨b,6,none⟩) bltW ab).trans e6);have q5:=((h.cell (p:=⟨b,7,none⟩) bltW ab).trans e7);clear h;go_simp;try rfl));dsimp only[Act.put];try simp only[bW])
 refine au rfl ?_;intro KS hKS;go_simp;refine hKS.out _ _ (λ_=>(ag _ _ _).trans (aD _ _)) ?_;clear hKS KS;refine au rfl ?_;intro KS hKS
 refine step_append_lies _ (by rfl) _ _ _ (by rfl) base 115 i0 _ 5 72 (by kernel_rfl) a8 b2 b3 b5 rfl (by omega) _ l.length (mo l) (by rfl) ((Y.alloc _).drew)
    ⟨W.heap.size,0,none⟩ 1 1 [.int .u8 X.cls.toNat,.int .i64 X.meth,.int .u8 X.ans.toNat,.slice al X.zy.length capl,.slice ao X.items.length cap] (by rfl) (by rfl) (iO (cs:=#[.int .u8 X.cls.toNat,.int .i64 X.meth,.int .u8 X.ans.toNat,.slice al X.zy.length capl,.slice ao X.items.length cap]) (t:=115) (fr:=(0,0)) (bj W _)) (by simp[Value.oneCell'])
    (by omega) (by unfold maxLen;omega) (by omega) (by simp;omega) (W.heap.size+1) (by simp) ?_
 intro gg a G m z b7 b1;have q:But (λk=>(Value.slice a2 l.length cap2).ownBlock=some k) W G:=((ag _ _ _).trans (aD _ _)).trans (bD z);refine hKS.out _ _ (λ_=>q) ?_;clear hKS KS;have y0:=(q.cell (p:=⟨b,2,none⟩) bltW ab).trans e2;have y1:=(q.frozen (p:=⟨b,2,none⟩) bltW ab).trans g2;refine au rfl ?_;intro KS hKS;go_simp;refine hKS.out _ _ nofun ?_;clear hKS KS;refine au rfl ?_;intro KS hKS;go_simp;refine hKS.out _ _ nofun ?_;clear hKS KS;refine au rfl ?_;intro KS hKS;go_simp;refine hKS.out _ _ nofun ?_;clear hKS KS;refine au rfl ?_;intro KS hKS;go_simp;refine hKS.out _ _ nofun ?_;clear hKS KS
 refine aK rfl ?_;have c6:=aC m gg rfl;have C:=(d.but q ab).set2 (.slice (some ⟨gg,0,none⟩) (l.length+1) a);have f:But (λk=>k=b\/(Value.slice a2 l.length cap2).ownBlock=some k) W (G.setCell ⟨b,2,none⟩ (.slice (some ⟨gg,0,none⟩) (l.length+1) a)):=(q.mono (λ_ _ h=>Or.inr h)).next (aq _ _ _ _) (λ_ _ h=>Or.inl h);have T:=ah m (aq G b 2 (.slice (some ⟨gg,0,none⟩) (l.length+1) a)) (λg c h=>by have:=aC m g c;omega)
 have P: ∀x∈l++ [(X,.slice al X.zy.length capl,.slice ao X.items.length cap)],BtB (G.setCell ⟨b,2,none⟩ (.slice (some ⟨gg,0,none⟩) (l.length+1) a)) base x.2.1 x.1.zy/\ItB (G.setCell ⟨b,2,none⟩ (.slice (some ⟨gg,0,none⟩) (l.length+1) a)) base x.2.2 x.1.items:=by
  have n: ∀g cur e,W.heap[g]?=some (.cells cur e)->e≠115->base<=g-> ¬(g=b\/(Value.slice a2 l.length cap2).ownBlock=some g):=by
   intro g cur e D he c h;obtain h|h:=h
   .omega
   .exact gd Y D he h
  intro x hx;obtain hx|hx:=gH hx
  .have h1:=hf x hx;exact⟨bz (BtB.but h1.1 j (λg c h=>by have:=aC h1.1 g c;omega)) f (λg cur D c=>n g cur _ D (by decide) c),bz (ah h1.2 j (λg c h=>by have:=aC h1.2 g c;omega)) f (λg cur D c=>n g cur _ D (by decide) c)⟩
  .simp at hx;subst hx;exact⟨bz (hl.but j (λg c h=>by have:=aC hl g c;omega)) f (λg cur D c=>n g cur _ D (by decide) c),bz b0 f (λg cur D c=>n g cur _ D (by decide) c)⟩
 have a6:TbV (G.setCell ⟨b,2,none⟩ (.slice (some ⟨gg,0,none⟩) (l.length+1) a)) base (.slice (some ⟨gg,0,none⟩) (l.length+1) a) (bs++ [X]):=
  ⟨l++ [(X,.slice al X.zy.length capl,.slice ao X.items.length cap)],by rw[tn,aV];exact T,by rw[List.map_append,HM.out];rfl,P⟩
 have a5:But (λk=>k=b\/(Value.slice a2 l.length cap2).ownBlock=some k) w (G.setCell ⟨b,2,none⟩ (.slice (some ⟨gg,0,none⟩) (l.length+1) a)):=(j.mono (λ_ _ h=>Or.inl h)).trans f;clear P f T;generalize (G.setCell ⟨b,2,none⟩ (.slice (some ⟨gg,0,none⟩) (l.length+1) a))=W3 at*;clear y0 y1 e2 e3 e4 e5 e6 e7 g2 q z;have F:(bs++ [X]).length=l.length+1:=by rw[aV,<-a1.out];rfl
 have a3:=hid F;clear F;dsimp only at C;go_wp2_with fail;go_end0;refine⟨rfl,a5,some ⟨gg,0,none⟩,a,.slice ao X.items.length cap,?_⟩;rw[a3.out];exact⟨C,a6⟩
def iN (s:ByteArray) (cs:List Cls) (ns nl i:Nat) (bad:Bool):Except Nat (List Ins×Nat):=if bad=true then .error i else gZ s cs ns nl 100 [] i
def lm (s:ByteArray) (cs:List Cls) (ns nl:Nat) (R:Except Nat (List Ins×Nat)) (mm:Nat) (items:List XIt) (j:Nat) (bad:Bool):Prop:=
 (bad=false/\ ∃is,items=is.map aJ/\is≠ []/\is.length+mm=100/\gZ s cs ns nl mm is j=R)\/(bad=true/\R= .error j)
section
variable {s:ByteArray} {cs:List Cls} {ns nl:Nat} {R:Except Nat (List Ins×Nat)}
theorem qu {k:Nat} {is:List Ins} {j:Nat} (h: ¬((pk s j).toNat=46/\is≠ [])):gZ s cs ns nl (k+1) is j=match oG s cs ns nl j with
  | .error j=> .error j
  | .ok (x,j)=>gZ s cs ns nl k (is++ [x]) j:=by
 rw[gZ,if_neg h]
 cases oG s cs ns nl j<;>rfl
theorem lm.start {i:Nat} {bad:Bool} (hR:iN s cs ns nl i bad=R) {x:XIt} {j:Nat} {bad':Bool} (h:jm s cs ns nl i bad x j bad'):lm s cs ns nl R 99 [x] j bad':=by
 unfold iN at hR;unfold jm rx at h
 cases bad with
 |true=>
  simp only[if_true]at h hR;obtain⟨_,y,h,_⟩ | ⟨a,b⟩:=h
  .cases h
  .cases b
   exact Or.inr ⟨a,hR.symm⟩
 |false=>
  simp only[dx,if_false]at h hR;rw[qu (by simp)]at hR;obtain⟨a,y,b,c⟩ | ⟨a,b⟩:=h
  .rw[b]at hR;exact Or.inl ⟨a,[y],by simp[c],by simp,by simp,hR⟩
  .rw[b]at hR;exact Or.inr ⟨a,hR.symm⟩
theorem lm.next {mm:Nat} {items:List XIt} {j:Nat} (h:lm s cs ns nl R mm items j false) (hl:items.length<100) (hp:pk s j≠46) {x:XIt} {j':Nat} {bad':Bool} (hi:jm s cs ns nl j false x j' bad'): ∃m',m'<mm/\lm s cs ns nl R m' (items++ [x]) j' bad':=by
 obtain⟨_,is,d,i,k,a⟩ | ⟨h,_⟩:=h
 .have g:is.length<100:=by rw[d,bZ]at hl;exact hl
  obtain⟨f,rfl⟩: ∃f,mm=f+1:=⟨mm-1,by omega⟩;rw[qu (λh=>hp ((u8n (by decide)).1 h.1))]at a;unfold jm rx at hi;simp only[dx,if_false]at hi;obtain⟨b,y,c,e⟩ | ⟨b,c⟩:=hi
  .rw[c]at a;exact⟨f,by omega,Or.inl ⟨b,is++ [y],by rw[d,List.map_append,e];rfl,by simp,by simp;omega,a⟩⟩
  .rw[c]at a;exact⟨0,by omega,Or.inr ⟨b,a.symm⟩⟩
 .cases h
theorem lm.fin {mm:Nat} {items:List XIt} {j:Nat} {bad:Bool} (h:lm s cs ns nl R mm items j bad) (hx:bad=true\/ ¬items.length<100\/pk s j=46):
  ((tkP s 46 j bad).2=false/\ ∃is,R= .ok (is,(tkP s 46 j bad).1)/\items=is.map aJ)\/((tkP s 46 j bad).2=true/\R= .error (tkP s 46 j bad).1):=by
 obtain⟨rfl,is,b,a,d,c⟩ | ⟨rfl,a⟩:=h
 .by_cases hp:pk s j=46
  .left
   rw[mV hp];refine⟨rfl,is,?_,b⟩;rw[<-c]
   cases mm<;>simp[gZ,hp,a]
  .right
   rw[fN (Or.inr hp)];refine⟨rfl,?_⟩
   have hm:mm=0:=by
    obtain h|h|h:=hx
    .cases h
    .rw[b,bZ]at h;omega
    .exact absurd h hp
   subst hm;rw[<-c];have: ¬((pk s j).toNat=46/\is≠ []):=λh=>hp ((u8n (by decide)).1 h.1)
   simp only[gZ,if_neg this]
 .right
  rw[fN (Or.inl rfl)];exact⟨rfl,a⟩
end
def F8 (s:ByteArray) (SC:List Cls) (a0 a1:Option Addr) (ng nl cap0 cap1:Nat) (v2:RdV) (b base:Nat) (R:Except Nat (List Ins×Nat)) (en:Ending) (w':World):Prop:=
 ∃ao cap items j bad' mm,en= .returned (.slice ao (List.length items) cap)/\XrB w' b s j bad' (.slice a0 SC.length cap0) (.slice a1 ng cap1) v2/\ItB w' base (.slice ao items.length cap) items/\items.length<=100/\
   lm s SC ng nl R mm items j bad'/\(bad'=true\/ ¬items.length<100\/pk s j=46)
theorem pg (b base:Nat) (s:ByteArray) (i:Nat) (bad:Bool) (SC:List Cls) (a0 a1 al:Option Addr) (ng nl cap0 cap1 capl:Nat) (v2:RdV) (w:World)
  (hG:bad=true\/(WfC SC/\TcV w base (.slice a0 SC.length cap0) (SC.map toX))) (hnc:SC.length<=4) (hng:ng<=3) (hnl:nl<=10) (hs:s.size<=2000)
  (hR:XrB w b s i bad (.slice a0 SC.length cap0) (.slice a1 ng cap1) v2) (hv:v2.hl= .slice al nl capl) (hb:b<base):
  Calls prog 101 #[.pointer (some ⟨b,0,none⟩)] w λen w'=>But (· =b) w w'/\
   F8 s SC a0 a1 ng nl cap0 cap1 v2 b w.heap.size (iN s SC ng nl i bad) en w':=by
 obtain⟨R,H⟩: ∃R,iN s SC ng nl i bad=R:=⟨_,rfl⟩;rw[H];have Q:=hid H;clear H;obtain⟨i0,b7,d6,e0,e1⟩:=info_parts ku;have e5:=hR.lt;have HG:=hid hG;have v:=hid (λ(w':World) (i':Nat) (bad':Bool) (h:But (· =b) w w') (hg:bad'=true\/(WfC SC/\TcV w base (.slice a0 SC.length cap0) (SC.map toX))) (hr:XrB w' b s i' bad' (.slice a0 SC.length cap0) (.slice a1 ng cap1) v2)=>xp b base s i' SC a0 a1 al ng nl cap0 cap1 capl v2 w' bad' (hg.imp id (λq=>⟨q.1,q.2.but h (λg e cur _ _ hg he=>by omega)⟩)) hnc hng hnl hs hr hv hb);clear hG
 go_in
 go_wp2_with fail;refine(v.out w i bad (cq _ _) HG.out hR).mono ?_;rintro en w1 ⟨S,x,j1,z,rfl,a5,F⟩
 have b1:Hid (z=true\/(WfC SC/\TcV w base (.slice a0 SC.length cap0) (SC.map toX))):=by
  refine hid ?_;obtain h|h:=HG.out
  .left
   obtain⟨_,y,h2,_⟩ | ⟨h2,_⟩:=F
   .rw[h]at h2;simp[rx]at h2
   .exact h2
  .exact Or.inr h
 have b0:=hid (lm.start Q.out F);have T:=S;clear F Q HG;unfold itV;go_wp2_with fail;have c:B_ w1 ((w1.alloc (.cells #[.int .i64 x.place,.int .u8 x.op.toNat,.int .u8 x.cls.toNat,.int .i64 x.num,.slice x.pa x.pn x.pc] 219)).alloc (.cells #[.int .i64 x.place,.int .u8 x.op.toNat,.int .u8 x.cls.toNat,.int .i64 x.num,.slice x.pa x.pn x.pc] 219)):=(ag _ _ _).trans (ag _ _ _)
 have G:ItB ((w1.alloc (.cells #[.int .i64 x.place,.int .u8 x.op.toNat,.int .u8 x.cls.toNat,.int .i64 x.num,.slice x.pa x.pn x.pc] 219)).alloc (.cells #[.int .i64 x.place,.int .u8 x.op.toNat,.int .u8 x.cls.toNat,.int .i64 x.num,.slice x.pa x.pn x.pc] 219)) w1.heap.size (.slice (some ⟨w1.heap.size+1,0,none⟩) 1 1) [x]:=
  ⟨rfl,Or.inr ⟨w1.heap.size+1,1,_,rfl,by omega,aw (by simp) _,by simp,by unfold maxLen;omega,rfl,rfl⟩⟩
 revert c G;generalize ((w1.alloc (.cells #[.int .i64 x.place,.int .u8 x.op.toNat,.int .u8 x.cls.toNat,.int .i64 x.num,.slice x.pa x.pn x.pc] 219)).alloc (.cells #[.int .i64 x.place,.int .u8 x.op.toNat,.int .u8 x.cls.toNat,.int .i64 x.num,.slice x.pa x.pn x.pc] 219))=w2;intro c G;have b4:=a5.but c (λh=>h);have X:But (· =b) w w2:=T.next c (λ_ _ h=>h.elim);have a3:=S.size;have e2:=c.size;clear a5 c
 go_loopg [4] 99 (λmm vs wr=> ∃(ao:Option Addr) (cap j:Nat) (bad':Bool) (items:List XIt),vs= .slice ao items.length cap/\items.length<=100/\But (· =b) w wr/\XrB wr b s j bad' (.slice a0 SC.length cap0) (.slice a1 ng cap1) v2/\ItB wr w.heap.size (.slice ao items.length cap) items/\Hid (bad'=true\/(WfC SC/\TcV w base (.slice a0 SC.length cap0) (SC.map toX)))/\Hid (lm s SC ng nl R mm items j bad'))
 case atStart=>exact⟨_,1,j1,z,[x],rfl,by simp,X,b4,dh G a3,b1,b0⟩
 case round=>
  obtain⟨ao,cap,j,bad',items,rfl,a7,l,d,r,O,p⟩:=hrel;have c6:=l.size;have e4:=d.lt
  by_cases hlt:items.length<100
  .have b8:(items.length:Int)<100:=by omega
   by_cases hgo:bad'=false/\pk s j≠46
   .obtain⟨rfl,J⟩:=hgo;have n:(!false&& !decide (pk s j=46))=true:=by simp[J]
    have a:=dA b s j false _ _ _ wr 46 d;rw[n]at a;have E:=hid a;have P:=hid (λx j' bad'=>p.out.next hlt J (x:=x) (j':=j') (bad':=bad'));clear n a J p;go_wp2_with fail;refine E.out.mono ?_;rintro en w3 ⟨rfl,k,rfl⟩;go_wp2_with fail;refine(v.out (wr.drewN k) j false (l.trans (bp _ _ _)) O.out (d.drewN k)).mono ?_;rintro en M ⟨b3,y,j4,f,rfl,b5,a4⟩;obtain⟨m',e6,Z⟩:=P.out y j4 f a4;have a8:=hid Z
    have b2:Hid (f=true\/(WfC SC/\TcV w base (.slice a0 SC.length cap0) (SC.map toX))):=by
     refine hid (Or.inr ?_);obtain h|h:=O.out
     .cases h
     .exact h
    have m:But (· =b) wr M:=(bp _ _ _).trans b3;have B:But (· =b) w M:=l.trans m;have D:M.ownsRow w.heap.size 219 5 (.slice ao items.length cap) items.length (cd items):=ah r m (λg hg h=>by have:=aC r g hg;omega);have C:=aC D;have e7:=B.size;have e8:=m.size;clear a4 Z P;unfold itV;go_wp2_with (at_builtin;refine wpList_append_lies _ rfl _ _ _ rfl w.heap.size 219 i0 _ 5 48 (by kernel_rfl) b7 d6 e0 e1 rfl (by omega) _ items.length (cd items) rfl ((D.alloc _).alloc _) ⟨M.heap.size+1,0,none⟩ 1 1 [.int .i64 y.place,.int .u8 y.op.toNat,.int .u8 y.cls.toNat,.int .i64 y.num,.slice y.pa y.pn y.pc] rfl rfl (iO (cs:=#[.int .i64 y.place,.int .u8 y.op.toNat,.int .u8 y.cls.toNat,.int .i64 y.num,.slice y.pa y.pn y.pc]) (t:=219) (fr:=(0,0)) (aw (by simp) _)) (by simp[Value.oneCell']) (by omega) (by unfold maxLen;omega) (by omega) (by simp;omega) (M.heap.size+2) (by simp) ?_)
    intro gg A w5 L I e3 b9;have a6:But (λk'=>(Value.slice ao items.length cap).ownBlock=some k') M w5:=((ag _ _ _).trans (ag _ _ _)).trans (bD I);have Y:But (· =b) w w5:=B.next a6 (λk' hk' h=>absurd (C k' h) (by omega));have b6:=b5.but a6 (λh=>by have:=C _ h;omega)
    have a2:ItB w5 w.heap.size (.slice (some ⟨gg,0,none⟩) (items++ [y]).length A) (items++ [y]):=by
     unfold ItB;rw[aV,gL];exact L
    go_wp2_with fail
    go_roundg m'
    case measure=>omega
    case rel=>exact⟨_,A,j4,f,items++ [y],by simp,by simp;omega,Y,b6,a2,b2,a8⟩
   .have n:(!bad'&& !decide (pk s j=46))=false:=by
     cases bad' with
     |true=>rfl
     |false=>
      by_cases h:pk s j=46
      .simp[h]
      .exact absurd ⟨rfl,h⟩ hgo
    have hx:bad'=true\/ ¬items.length<100\/pk s j=46:=by
     cases bad' with
     |true=>exact Or.inl rfl
     |false=>
      right;right
      by_cases h:pk s j=46
      .exact h
      .exact absurd ⟨rfl,h⟩ hgo
    have HX:=hid hx;have a:=dA b s j bad' _ _ _ wr 46 d;rw[n]at a;have E:=hid a;clear n a hx hgo;go_wp2_with fail;refine E.out.mono ?_;rintro en w3 ⟨rfl,k,rfl⟩;go_wp2_with fail;exact cV (.slice ao items.length cap) results101 rfl rfl ⟨l.trans (bp _ _ _),⟨ao,cap,items,j,bad',_,rfl,d.drewN k,ah r (bp (λ_=>False) _ _) (λ_ _ h=>h),a7,p.out,HX.out⟩⟩
  .have b8: ¬(items.length:Int)<100:=by omega
   go_wp2_with fail;exact cV (.slice ao items.length cap) results101 rfl rfl ⟨l,⟨ao,cap,items,j,bad',_,rfl,d,r,a7,p.out,Or.inr (Or.inl hlt)⟩⟩
theorem uZ (s:ByteArray) (w:World):
  Calls prog 97 #[.string s] w λen w'=>en= .returned (.pointer (some ⟨w.heap.size,0,none⟩))/\B_ w w'/\w.heap.size<w'.heap.size/\XrB w' w.heap.size s 0 false S_ S_ ⟨S_,.int .u8 0,.int .i64 0,.int .u8 0,S_,S_,false⟩:=by
 go_in
 go_wp2
 go_ret;exact⟨rfl,ag _ _ _,by simp,bj _ _⟩
def FG (s:ByteArray) (nc:Nat) (gs:List Sig) (BS:List Bod) (i:Nat) (a0:Option Addr) (cap0:Nat) (v1:Value) (a2:Option Addr) (n cap2 b base:Nat) (w':World):Prop:=
 ∃(c:UInt8) (m:Nat) (r:UInt8) (ao:Option Addr) (cap:Nat) (l:L_) (j:Nat) (bad':Bool),XrB w' b s j bad' (.slice a0 nc cap0) v1 ⟨.slice a2 n cap2,.int .u8 (UInt8.toNat c),.int .i64 m,.int .u8 (UInt8.toNat r),.slice ao (List.length l) cap,S_,false⟩/\BtB w' base (.slice ao l.length cap) l/\l.length<=5/\
   ((bad'=false/\ ∃x t,gP s nc gs BS i= .ok ((x,m,t),j)/\c=UInt8.ofNat (65+x)/\x<nc/\m<gs.length/\r=(dC gs m).ret/\l=c::(dC gs m).arg::t)\/(bad'=true/\gP s nc gs BS i= .error j))
def FH (s:ByteArray) (nc i:Nat) (bad:Bool) (a0:Option Addr) (cap0:Nat) (v1:Value) (a2:Option Addr) (n cap2 b base:Nat) (w':World):Prop:=
 ∃(ao:Option Addr) (cap:Nat) (l:L_) (j:Nat) (bad':Bool),XrB w' b s j bad' (.slice a0 nc cap0) v1 ⟨.slice a2 n cap2,.int .u8 45,.int .i64 0,.int .u8 105,.slice ao (List.length l) cap,S_,true⟩/\BtB w' base (.slice ao l.length cap) l/\l.length<=3/\
   ((bad'=false/\fR s nc 58 3 i bad= .ok (l,j))\/(bad'=true/\fR s nc 58 3 i bad= .error j))
theorem lP (b:Nat) (s:ByteArray) (i:Nat) (bad:Bool) (v0 v1:Value) (v2:RdV) (w:World) (hR:XrB w b s i bad v0 v1 v2) (hx:v2.main=true\/bad=true):
  Calls prog 100 #[.pointer (some ⟨b,0,none⟩)] w λe w'=>e= .returned (.bool false)/\ ∃m,w'=w.drewN m:=by
 have c:=hR.c4;have a:=hR.d5
 cases hm:v2.main with
 |true=>
  rw[hm]at a
  go_in
  go_wp2_with fail;exact cV (.bool false) results100 rfl rfl ⟨rfl,0,rfl⟩
 |false=>
  rw[hm]at a;have hb:bad=true:=by rcases hx with h|h;(rw[hm]at h;cases h);exact h
  subst hb
  go_in
  go_wp2_with fail;exact cV (.bool false) results100 rfl rfl ⟨rfl,0,rfl⟩
theorem lQ (b base:Nat) (s:ByteArray) (i:Nat) (a0 a2:Option Addr) (nc cap0 n cap2:Nat) (v1 x0 x1 x2 x3 x4:Value) (w:World) (gs:List Sig) (BS:List Bod) (xs:List bK) (hxs:xs.map lw=(BS.map (aR gs)).map lw) (hnc:nc<=4) (hgs:gs.length<=3) (hBS:BS.length<=6) (hsb: ∀b∈BS,(b.cls= -1)\/hU b) (hs:s.size<=2000)
  (hR:XrB w b s i false (.slice a0 nc cap0) v1 ⟨.slice a2 n cap2,x0,x1,x2,x3,x4,false⟩) (hM:TmV w base v1 gs) (hBd:TbV w base (.slice a2 n cap2) xs) (hb:b<base) (hn:n<6) (hp:pk s i≠59):
  Calls prog 100 #[.pointer (some ⟨b,0,none⟩)] w λen w'=>But (· =b) w w'/\en= .returned (.bool true)/\FG s nc gs BS i a0 cap0 v1 a2 n cap2 b w.heap.size w':=by
 have A:=hR.c2;have C:=hR.c4;have B:=hR.d5;have E:(n:Int)<6:=by omega
 have D:=hR.lt;have d:=dA b s i false _ _ _ w 59 hR;rw[show(!false&& !decide (pk s i=59))=true from by simp[hp]]at d;have e:=hid d;have f:=hid (λk=>zN b base s i a0 nc cap0 v1 ⟨.slice a2 n cap2,x0,x1,x2,x3,x4,false⟩ (w.drewN k) gs BS xs hxs hnc hgs hBS hsb hs (hR.drewN k) (hM.but (bp (λ_=>False) _ _) (λ_ _ _ _ _ _ h=>h)) (hBd.but (bp (λ_=>False) _ _) (λ_ _ _ _ _ _ h=>h)) hb);clear d hp hM hBd hsb hBS hn hxs;dsimp only at A B
 go_in
 go_wp2_with fail;refine e.out.mono ?_;rintro en w1 ⟨rfl,k,rfl⟩;go_wp2_with fail;refine(f.out k).mono ?_;rintro en w2 ⟨x,c,m,r,ao,cap,l,j,bad',rfl,a,q,z,t⟩;have v:=hid t;have F:=a.d0;have G:=a.d1;have H:=a.d2;have I:=a.d3;have J:=a.d4;have L:=a.fz 3;have g1:=a.fz 4;have g2:=a.fz 5;have M:=a.fz 6;have O:=a.fz 7;clear t A C B e f;unfold hdV;go_wp2_with fail;have y:=a.setB (.int .u8 c.toNat) (.int .i64 m) (.int .u8 r.toNat) (.slice ao l.length cap) S_
 have p:But (· =b) w2 (((((w2.setCell ⟨b,3,none⟩ (.int .u8 c.toNat)).setCell ⟨b,4,none⟩ (.int .i64 m)).setCell ⟨b,5,none⟩ (.int .u8 r.toNat)).setCell ⟨b,6,none⟩ (.slice ao l.length cap)).setCell ⟨b,7,none⟩ S_):=
  ((((aq _ _ _ _).trans (aq _ _ _ _)).trans (aq _ _ _ _)).trans (aq _ _ _ _)).trans (aq _ _ _ _)
 exact cV (.bool true) results100 rfl rfl ⟨((bp _ _ _).trans x).trans p,rfl,c,m,r,ao,cap,l,j,bad',y,BtB.but q p (λg hg h=>by have:=aC q g hg;have:w.heap.size<=g:=this;omega),z,v.out⟩
theorem lR (b:Nat) (s:ByteArray) (i:Nat) (a0 a2:Option Addr) (nc cap0 n cap2:Nat) (v1 x0 x1 x2 x3 x4:Value) (w:World) (hnc:nc<=4) (hs:s.size<=2000)
  (hR:XrB w b s i false (.slice a0 nc cap0) v1 ⟨.slice a2 n cap2,x0,x1,x2,x3,x4,false⟩) (hx: ¬n<6\/pk s i=59):
  Calls prog 100 #[.pointer (some ⟨b,0,none⟩)] w λen w'=>But (· =b) w w'/\en= .returned (.bool true)/\FH s nc (tkP s 59 i false).1 (tkP s 59 i false).2 a0 cap0 v1 a2 n cap2 b w.heap.size w':=by
 have F:=hR.c2;have M:=hR.c4;have G:=hR.d5;have L:=hR.fz 10;have a1:=hR.lt;dsimp only at F G;obtain⟨TK,B⟩: ∃TK,tkP s 59 i false=TK:=⟨_,rfl⟩;rw[B];obtain⟨O,v⟩:=TK;dsimp only;have c:=hid (λ(wx:World) (h:XrB wx b s i false (.slice a0 nc cap0) v1 ⟨.slice a2 n cap2,x0,x1,x2,x3,x4,true⟩)=>eJ b s i false _ _ _ wx 59 (by decide) hs h);rw[B]at c;clear B;have J:Hid (∀(w1 w2 D:World),But (· =b) w w1->w.heap.size<=w1.heap.size->True):=hid (λ_ _ _ _ _=>trivial)
 by_cases hnI:(n:Int)<6
 .have hp:pk s i=59:=by
   obtain h|h:=hx
   .omega
   .exact h
  have t:=dA b s i false _ _ _ w 59 hR;rw[show(!false&& !decide (pk s i=59))=false from by simp[hp]]at t;have E:=hid t;clear t hp hx
  go_in
  go_wp2_with fail;refine E.out.mono ?_;rintro en w1 ⟨rfl,k,rfl⟩;have q:=(hR.drewN k).setM true;have f:But (· =b) w ((w.drewN k).setCell ⟨b,10,none⟩ (.bool true)):=(bp _ _ _).trans (aq _ _ _ _);have I:=f.size;go_wp2_with fail;refine(c.out _ q).mono ?_;rintro en w2 ⟨rfl,d,z⟩;have H:=d.size;have m:=f.trans d;clear F M G L E c q;go_wp2_with fail;refine(mF b s O v a0 nc cap0 _ _ w2 hnc hs z).mono ?_;rintro en D ⟨y,ao,cap,l,j,bad',rfl,a,p,C,r⟩;have x:=hid r;have P:=a.d0;have Q:=a.d1;have S:=a.d2;have T:=a.d3;have X:=a.d4;have Y:=a.fz 3;have g1:=a.fz 4;have g2:=a.fz 5;have Z:=a.fz 6;have g4:=a.fz 7;clear r
  unfold hdV;simp only[show(UInt8.toNat 45)=45 from rfl,show(UInt8.toNat 105)=105 from rfl];go_wp2_with fail;have A:=a.setB (.int .u8 45) (.int .i64 0) (.int .u8 105) (.slice ao l.length cap) S_
  have e:But (· =b) D (((((D.setCell ⟨b,3,none⟩ (.int .u8 45)).setCell ⟨b,4,none⟩ (.int .i64 0)).setCell ⟨b,5,none⟩ (.int .u8 105)).setCell ⟨b,6,none⟩ (.slice ao l.length cap)).setCell ⟨b,7,none⟩ S_):=
   ((((aq _ _ _ _).trans (aq _ _ _ _)).trans (aq _ _ _ _)).trans (aq _ _ _ _)).trans (aq _ _ _ _)
  exact cV (.bool true) results100 rfl rfl ⟨(m.trans y).trans e,rfl,ao,cap,l,j,bad',A,BtB.but (dh p (by omega)) e (λg hg h=>by have:=aC p g hg;omega),C,x.out⟩
 .clear hx;have q:=hR.setM true;have f:But (· =b) w (w.setCell ⟨b,10,none⟩ (.bool true)):=aq _ _ _ _;have I:=f.size
  go_in
  go_wp2_with fail;refine(c.out _ q).mono ?_;rintro en w2 ⟨rfl,d,z⟩;have H:=d.size;have m:=f.trans d;clear F M G L c q;go_wp2_with fail;refine(mF b s O v a0 nc cap0 _ _ w2 hnc hs z).mono ?_;rintro en D ⟨y,ao,cap,l,j,bad',rfl,a,p,C,r⟩;have x:=hid r;have P:=a.d0;have Q:=a.d1;have S:=a.d2;have T:=a.d3;have X:=a.d4;have Y:=a.fz 3;have g1:=a.fz 4;have g2:=a.fz 5;have Z:=a.fz 6;have g4:=a.fz 7;clear r;unfold hdV;simp only[show(UInt8.toNat 45)=45 from rfl,show(UInt8.toNat 105)=105 from rfl];go_wp2_with fail;have A:=a.setB (.int .u8 45) (.int .i64 0) (.int .u8 105) (.slice ao l.length cap) S_
  have e:But (· =b) D (((((D.setCell ⟨b,3,none⟩ (.int .u8 45)).setCell ⟨b,4,none⟩ (.int .i64 0)).setCell ⟨b,5,none⟩ (.int .u8 105)).setCell ⟨b,6,none⟩ (.slice ao l.length cap)).setCell ⟨b,7,none⟩ S_):=
   ((((aq _ _ _ _).trans (aq _ _ _ _)).trans (aq _ _ _ _)).trans (aq _ _ _ _)).trans (aq _ _ _ _)
  exact cV (.bool true) results100 rfl rfl ⟨(m.trans y).trans e,rfl,ao,cap,l,j,bad',A,BtB.but (dh p (by omega)) e (λg hg h=>by have:=aC p g hg;omega),C,x.out⟩
def Ex (s:ByteArray) (i:Nat) (bad:Bool) (b:Nat) (w:World) (en:Ending) (w':World):Prop:=
 ((bad||decide (i<s.size))=true/\ ∃g,w.heap.size<=g/\en= .returned (.tuple #[.pointer (some ⟨g,0,none⟩),.int .i64 i])/\w'.heap[g]?=some (.cells #[S_,S_,S_] 109))\/
    ((bad||decide (i<s.size))=false/\en= .returned (.tuple #[.pointer (some ⟨b,0,none⟩),.int .i64 (-1)]))
theorem ph (b:Nat) (s:ByteArray) (i:Nat) (bad:Bool) (v0 v1:Value) (v2:RdV) (w:World) (hR:XrB w b s i bad v0 v1 v2):
  Calls prog 103 #[.pointer (some ⟨b,0,none⟩)] w λen w'=>B_ w w'/\Ex s i bad b w en w':=by
 have n:=hR.c3;have p:=hR.c4;have q:=hR.c5;have r:=hR.lt
 cases bad with
 |true=>
   go_in
   go_wp2
   go_quiet (fail)
   go_wp2_with fail;have c:=hR.drewN nq;have a:B_ w (w.drewN nq):=bp _ _ _;have e:w.heap.size<=(w.drewN nq).heap.size:=a.size;revert c a e;generalize (w.drewN nq)=V;intro c a e;have m:=c.c3;have f:=c.lt;clear n p q hR;have d:B_ V V.drew:=aD _ _;refine dr (B_ V) 7 ?_;refine cW [2,3,4,5,0] ?_
   iterate 5 (refine dt (v:=?_) rfl d ?_ ?_;rotate_left;(focus (intro wS h;have t:=(h.kc m f);clear h;go_simp;try rfl));dsimp only[Act.put];try simp only[bW])
   refine aG (k:=1) rfl ?_;intro KS hKS;go_simp;refine hKS.out _ _ (λ_=>d.trans (ag _ _ _)) ?_;clear hKS KS;refine aG (k:=6) rfl ?_;intro KS hKS;go_simp;refine hKS.out _ _ (λ_=>d.trans (ag _ _ _)) ?_;clear hKS KS;refine aG (k:=7) rfl ?_;intro KS hKS;go_simp;refine hKS.out _ _ nofun ?_;clear hKS KS;refine dg rfl ?_;have g:B_ V (V.drew.alloc (.cells #[S_,S_,S_] 109)):=(aD _ _).trans (ag _ _ _);have j:=bj V.drew (.cells #[S_,S_,S_] 109);go_wp2_with fail;exact cU (v:= .tuple #[.pointer (some ⟨V.heap.size,0,none⟩),.int .i64 i]) (by simp[results,results103,go_sem]) rfl ⟨a.trans g,Or.inl ⟨rfl,V.heap.size,e,rfl,j⟩⟩
 |false=>
  by_cases hi:(i:Int)<(s.size:Int)
  .have l:Hid ((false||decide (i<s.size))=true):=hid (by simp;omega)
   go_in
   go_wp2
   go_quiet (fail)
   go_wp2_with fail;have c:=hR.drewN nq;have a:B_ w (w.drewN nq):=bp _ _ _;have e:w.heap.size<=(w.drewN nq).heap.size:=a.size;revert c a e;generalize (w.drewN nq)=V;intro c a e;have m:=c.c3;have f:=c.lt;clear n p q hR;have d:B_ V V.drew:=aD _ _;refine dr (B_ V) 7 ?_;refine cW [2,3,4,5,0] ?_
   iterate 5 (refine dt (v:=?_) rfl d ?_ ?_;rotate_left;(focus (intro wS h;have t:=(h.kc m f);clear h;go_simp;try rfl));dsimp only[Act.put];try simp only[bW])
   refine aG (k:=1) rfl ?_;intro KS hKS;go_simp;refine hKS.out _ _ (λ_=>d.trans (ag _ _ _)) ?_;clear hKS KS;refine aG (k:=6) rfl ?_;intro KS hKS;go_simp;refine hKS.out _ _ (λ_=>d.trans (ag _ _ _)) ?_;clear hKS KS;refine aG (k:=7) rfl ?_;intro KS hKS;go_simp;refine hKS.out _ _ nofun ?_;clear hKS KS;refine dg rfl ?_;have g:B_ V (V.drew.alloc (.cells #[S_,S_,S_] 109)):=(aD _ _).trans (ag _ _ _);have j:=bj V.drew (.cells #[S_,S_,S_] 109);go_wp2_with fail;exact cU (v:= .tuple #[.pointer (some ⟨V.heap.size,0,none⟩),.int .i64 i]) (by simp[results,results103,go_sem]) rfl ⟨a.trans g,Or.inl ⟨l.out,V.heap.size,e,rfl,j⟩⟩
  .have l:Hid ((false||decide (i<s.size))=false):=hid (by simp;omega)
   go_in
   go_wp2
   go_quiet (fail)
   go_wp2_with fail;exact cU (v:= .tuple #[.pointer (some ⟨b,0,none⟩),.int .i64 (-1)]) (by simp[results,results103,go_sem]) rfl ⟨bp _ _ _,Or.inr ⟨l.out,rfl⟩⟩
def xq (Gd:Prop) (s:ByteArray) (cs:List Cls) (gs:List Sig) (R:Except Nat (List Bod×Nat)) (mm:Nat) (bs:List bK) (j:Nat) (bad:Bool):Prop:=
 (bad=false/\Gd/\ ∃BS,bs=BS.map (aR gs)/\(∀b∈BS,hU b)/\BS.length+mm=6/\kf s cs gs mm BS j=R)\/(bad=true/\R= .error j)
section
variable {Gd:Prop} {s:ByteArray} {cs:List Cls} {gs:List Sig} {R:Except Nat (List Bod×Nat)}
theorem zR {k:Nat} {BS:List Bod} {i:Nat} (h:(pk s i).toNat≠59):kf s cs gs (k+1) BS i=match gP s cs.length gs BS i with
  | .error j=> .error j
  | .ok ((x,m,t),p)=>
   match gZ s cs gs.length (t.length+2) 100 [] p with
   | .error q=> .error q
   | .ok (is,q)=>kf s cs gs k (BS++ [⟨x,m,UInt8.ofNat (65+x)::jc gs m::t,is⟩]) q:=by
 unfold gP;rw[kf,if_neg h]
 cases jb s cs.length i with
 |error j=>rfl
 |ok y=>
  obtain⟨x,j⟩:=y;simp only
  cases gE s gs.length j with
  |error l=>rfl
  |ok z=>
   obtain⟨m,l⟩:=z;simp only
   split
   .rfl
   .cases tys s cs.length 58 3 [] l with
    |error p=>rfl
    |ok t=>
     obtain⟨t,p⟩:=t;simp only
     cases gZ s cs gs.length (t.length+2) 100 [] p<;>rfl
theorem xq.fin {mm:Nat} {bs:List bK} {j:Nat} {bad:Bool} (h:xq Gd s cs gs R mm bs j bad) (hx: ¬bs.length<6\/(!bad&& !decide (pk s j=59))=false):
  ((tkP s 59 j bad).2=false/\Gd/\ ∃BS,R= .ok (BS,(tkP s 59 j bad).1)/\bs=BS.map (aR gs)/\ ∀b∈BS,hU b)\/((tkP s 59 j bad).2=true/\R= .error (tkP s 59 j bad).1):=by
 obtain⟨rfl,e,BS,c,a,f,d⟩ | ⟨rfl,a⟩:=h
 .by_cases hp:pk s j=59
  .left
   rw[mV hp];refine⟨rfl,e,BS,?_,c,a⟩;rw[<-d]
   cases mm<;>simp[kf,hp]
  .right
   rw[fN (Or.inr hp)];refine⟨rfl,?_⟩
   have hm:mm=0:=by
    obtain h|h:=hx
    .rw[c,bZ]at h;omega
    .simp[hp]at h
   subst hm;rw[<-d];have:(pk s j).toNat≠59:=λh=>hp ((u8n (by decide)).1 h)
   simp[kf,this]
 .right
  rw[fN (Or.inl rfl)];exact⟨rfl,a⟩
theorem rZ {m:Nat} (h:m<gs.length):(dC gs m).arg=jc gs m:=by
 unfold dC jc;rw[aM h]
 rfl
theorem xq.next {mm:Nat} {bs:List bK} {j:Nat} (h:xq Gd s cs gs R mm bs j false) (hnc:cs.length<=4) (hl:bs.length<6) (hp:pk s j≠59):
  Gd/\ ∃BS,bs=BS.map (aR gs)/\(∀b∈BS,hU b)/\BS.length<=6/\ ∀c m r l g a,((a=false/\ ∃x t,gP s cs.length gs BS j= .ok ((x,m,t),g)/\c=UInt8.ofNat (65+x)/\x<cs.length/\m<gs.length/\r=(dC gs m).ret/\l=c::(dC gs m).arg::t)\/(a=true/\gP s cs.length gs BS j= .error g))->
   ∀X j2 d,((d=false/\ ∃is,iN s cs gs.length l.length g a= .ok (is,j2)/\X=⟨c,m,r,l,is.map aJ⟩)\/(d=true/\iN s cs gs.length l.length g a= .error j2))->
   ∃m',m'<mm/\xq Gd s cs gs R m' (bs++ [X]) j2 d:=by
 obtain⟨_,y,BS,k,v,F,e⟩ | ⟨h,_⟩:=h
 .have D:BS.length<6:=by rw[k,bZ]at hl;exact hl
  refine⟨y,BS,k,v,by omega,?_⟩;intro c m r l g a C X j2 d hc;obtain⟨f,rfl⟩: ∃f,mm=f+1:=⟨mm-1,by omega⟩;have n:(pk s j).toNat≠59:=λh=>hp ((u8n (by decide)).1 h)
  rw[zR n]at e;obtain⟨rfl,x,t,i,z,E,A,B,q⟩ | ⟨rfl,i⟩:=C
  .rw[i]at e;simp only at e;unfold iN at hc;simp only[dx,if_false]at hc;rw[show l.length=t.length+2 from by rw[q];rfl]at hc;obtain⟨rfl,is,c1,c2⟩ | ⟨rfl,c1⟩:=hc
   .rw[c1]at e;refine⟨f,by omega,Or.inl ⟨rfl,y,BS++ [⟨x,m,UInt8.ofNat (65+x)::jc gs m::t,is⟩],?_,?_,by simp;omega,e⟩⟩
    .rw[k,List.map_append,c2];simp only[List.map_cons,List.map_nil,aR]
     congr 2
     rw[q,B,z,rZ A];have p: ¬((x:Int)<0):=by omega
     simp[p]
    .intro b hb;obtain hb|hb:=gH hb
     .exact v b hb
     .simp at hb;subst hb;exact⟨by simp,by simp;omega,by simp⟩
   .rw[c1]at e;exact⟨0,by omega,Or.inr ⟨rfl,e.symm⟩⟩
  .rw[i]at e;simp only at e;unfold iN at hc;simp only[if_true]at hc;obtain⟨_,is,c1,_⟩ | ⟨rfl,c1⟩:=hc
   .cases c1
   .cases c1
    exact⟨0,by omega,Or.inr ⟨rfl,e.symm⟩⟩
 .cases h
end
structure d9 (w:World) (b:Nat) (im:Img):Prop where
 cls:TxC w b (im.zq.map toX)
 met:TxM w b im.zx
 bod:TxB w b (im.zj.map (aR im.zx))
theorem Bv {s:ByteArray} {SC:List Cls} {n:Nat} {ms:List Sig} {cs:List bP} {bs:List bK} {l:L_} {X:bK} {j0 j1 j2 j3 j4:Nat} {b0 b1 b2 b3 b4:Bool} {R:Except Nat (List Bod×Nat)}
  (hcls:(b0=false/\ ∃SC',fw s 4 [] 0= .ok (SC',j0)/\SC'=SC/\cs=SC.map toX/\WfC SC)\/(b0=true/\fw s 4 [] 0= .error j0)) (hn:SC.length=n)
  (hsig:(b1=false/\nP s n j0 b0= .ok (ms,j1))\/(b1=true/\nP s n j0 b0= .error j1))
  (hR:(if b1=true then .error j1 else kf s SC ms 6 [] j1)=R)
  (hbod:(b2=false/\(b1=false)/\ ∃BS,R= .ok (BS,j2)/\bs=BS.map (aR ms)/\ ∀b∈BS,hU b)\/(b2=true/\R= .error j2))
  (hmain:(b3=false/\fR s n 58 3 j2 b2= .ok (l,j3))\/(b3=true/\fR s n 58 3 j2 b2= .error j3))
  (hcode:(b4=false/\ ∃is,iN s SC ms.length l.length j3 b3= .ok (is,j4)/\X=⟨45,0,105,l,is.map aJ⟩)\/(b4=true/\iN s SC ms.length l.length j3 b3= .error j4)):
  ((b4||decide (j4<s.size))=true/\iv s= .error j4)\/((b4||decide (j4<s.size))=false/\ ∃im,iv s= .ok im/\im.zq=SC/\cs=SC.map toX/\im.zx=ms/\bs++ [X]=im.zj.map (aR ms)):=by
 unfold iv;obtain⟨rfl,SC',hc,rfl,e,g⟩ | ⟨rfl,hc⟩:=hcls
 .rw[hc];simp only;unfold nP at hsig;simp only[dx,if_false]at hsig;rw[hn];obtain⟨rfl,c⟩ | ⟨rfl,c⟩:=hsig
  .rw[c];simp only;simp only[dx,if_false]at hR;rw[hR];obtain⟨rfl,_,BS,hb,d,_⟩ | ⟨rfl,hb⟩:=hbod
   .rw[hb];simp only;unfold fR at hmain;simp only[dx,if_false]at hmain;obtain⟨rfl,hm⟩ | ⟨rfl,hm⟩:=hmain
    .rw[hm];simp only;unfold iN at hcode;simp only[dx,if_false]at hcode;obtain⟨rfl,is,a,f⟩ | ⟨rfl,a⟩:=hcode
     .rw[a];simp only
      by_cases hlt:j4<s.size
      .left
       rw[if_pos hlt];exact⟨by simp[hlt],rfl⟩
      .right
       rw[if_neg hlt];refine⟨by simp[hlt],_,rfl,rfl,e,rfl,?_⟩;rw[d,f,List.map_append]
       rfl
     .rw[a];exact Or.inl ⟨rfl,rfl⟩
    .rw[hm];unfold iN at hcode;simp only[if_true]at hcode;obtain⟨_,is,a,_⟩ | ⟨rfl,a⟩:=hcode
     .cases a
     .cases a
      exact Or.inl ⟨rfl,rfl⟩
   .rw[hb];unfold fR at hmain;simp only[if_true]at hmain;obtain⟨_,hm⟩ | ⟨rfl,hm⟩:=hmain
    .cases hm
    .cases hm
     unfold iN at hcode;simp only[if_true]at hcode;obtain⟨_,is,a,_⟩ | ⟨rfl,a⟩:=hcode
     .cases a
     .cases a
      exact Or.inl ⟨rfl,rfl⟩
  .rw[c];simp only[if_true]at hR;subst hR;obtain⟨_,h,_⟩ | ⟨rfl,hb⟩:=hbod
   .cases h
   .cases hb
    unfold fR at hmain;simp only[if_true]at hmain;obtain⟨_,hm⟩ | ⟨rfl,hm⟩:=hmain
    .cases hm
    .cases hm
     unfold iN at hcode;simp only[if_true]at hcode;obtain⟨_,is,a,_⟩ | ⟨rfl,a⟩:=hcode
     .cases a
     .cases a
      exact Or.inl ⟨rfl,rfl⟩
 .rw[hc];unfold nP at hsig;simp only[if_true]at hsig;obtain⟨_,h⟩ | ⟨rfl,c⟩:=hsig
  .cases h
  .cases c
   simp only[if_true]at hR;subst hR;obtain⟨_,h,_⟩ | ⟨rfl,hb⟩:=hbod
   .cases h
   .cases hb
    unfold fR at hmain;simp only[if_true]at hmain;obtain⟨_,hm⟩ | ⟨rfl,hm⟩:=hmain
    .cases hm
    .cases hm
     unfold iN at hcode;simp only[if_true]at hcode;obtain⟨_,is,a,_⟩ | ⟨rfl,a⟩:=hcode
     .cases a
     .cases a
      exact Or.inl ⟨rfl,rfl⟩
end
end Go.Proofs.YtpfkkmacakjmbaaGreatDoor
