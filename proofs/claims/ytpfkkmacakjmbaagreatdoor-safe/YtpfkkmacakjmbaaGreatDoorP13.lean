import Derived.Test.YtpfkkmacakjmbaaGreatDoorP12
set_option maxRecDepth 100000
set_option maxHeartbeats 6400000
set_option linter.all false
namespace Go.Proofs.YtpfkkmacakjmbaaGreatDoor
open Proofs.Tryz
section
open Go Go.RowKit Sp
attribute [local go_sem ↓] dG dH
theorem yz:(prog.info? 115).map (λi=>(i.zero,i.size,i.bytes))=some (some (.agg #[.int .u8 0,.int .i64 0,.int .u8 0,S_,S_]),5,72):=by kernel_rfl
theorem jO:(prog.info? 219).map (λi=>(i.zero,i.size,i.bytes))=some (some (.agg #[.int .i64 0,.int .u8 0,.int .u8 0,.int .i64 0,S_]),5,48):=by kernel_rfl
theorem uf (l:List XIt): ∀u∈bX l,u.oneCell'=true:=by
 intro u hu;obtain⟨x,_,hx⟩:=List.mem_flatMap.1 hu;simp only[List.mem_cons,List.not_mem_nil,or_false]at hx;obtain h|h|h|h|h:=hx<;>(rw[h];rfl)
theorem sm (w:World) (ty:TypeId) (base bx:Nat) (v xv:Value) (m:List XIt) (hown:ItB w base v []) (hx:ItB w bx xv m) (hlen:m.length<=100000) (hbase:base<=w.heap.size):
  ∃v' w',(Builtin.append_ #[113,113] ty #[v,xv]).run prog w= .ok v' w'/\ItB w' base v' m/\But (λk=>v.ownBlock=some k) w w'/\(v'.ownBlock=v.ownBlock\/v'.ownBlock=some w.heap.size):=by
 obtain⟨i0,a1,a4,a2,a5⟩:=info_parts jO;have hu:prog.underlying 113=some (.slice 219):=by kernel_rfl
 obtain⟨ax,cx,rfl⟩:=aw hx
 cases ax with
 |none=>
  have hm:m.length=0:=by
   obtain h|h:=Nat.eq_zero_or_pos m.length
   .exact h
   .obtain⟨g,hg,_⟩:=aF hx h
    cases hg
  have a3:m=[]:=List.length_eq_zero_iff.1 hm;subst a3
  have hc: ∃ao cap,v= .slice ao 0 cap:=by
   obtain⟨ao,cap,h⟩:=aw hown;exact⟨ao,cap,h⟩
  obtain⟨ao,cap,rfl⟩:=hc;refine⟨_,w,run_append_nothing w _ _ ty 219 i0 hu a1 ao 0 cap (by omega) _ (by rw[a2];exact Src.ofNil w hu cx),hown,But.refl _ _,Or.inl rfl⟩
 |some ad=>
  have a0: ∀j u,(bX m)[j]?=some u->w.cell? (ad.add j)=some u:=by
   intro j u hj;obtain⟨g,cap',hv,hc,_⟩:=iD hx hj
   have h1:ad=⟨g,0,none⟩:=by
    have h2:=congrArg (λv=>match v with|Value.slice a _ _=>a|_=>none) hv;exact Option.some.inj h2
   rw[h1];have e:(⟨g,0,none⟩:Addr).add j=⟨g,j,none⟩:=by simp[Addr.add];exact λh=>h.symm
   rw[e];exact hc
  obtain⟨v',w',hr,h2,h3,_,h5⟩:=run_append_own_at (P:=prog) w base _ ty 219 i0 _ 5 48 hu a1 a4 a2 a5 rfl (by omega) v 0 (bX []) hown ad m.length cx (bX m) (ua m) a0 (uf m) (by unfold maxLen;omega) (by omega) hbase;refine⟨v',w',hr,?_,bc h3,h5⟩;unfold ItB;rw[Nat.zero_add]at h2;exact h2
theorem kF {w:World} {ops:Array Oper} {rest:List Oper} {o:Oper} {a:Act} {Q:Exit->Act->World->Prop} (hgd:o.guard=none) (s x:Operand)
  (ho:o.op= .call {callee:= .builtin .append,args:=#[s,x],argTypes:=#[113,113]}) (base bx:Nat) (v xv:Value) (m:List XIt) (hs:a.eval s=v) (hx:a.eval x=xv) (hown:ItB w base v []) (hxo:ItB w bx xv m) (hlen:m.length<=100000) (hbase:base<=w.heap.size)
  (h: ∀ao cap w',ItB w' base (.slice ao m.length cap) m->But (λk=>v.ownBlock=some k) w w'->wpList prog ops Q rest (a.put o.dst (.slice ao m.length cap)) w'):wpList prog ops Q (o::rest) a w:=by
 refine wpList_plain hgd λK hK=> ?_
 obtain⟨v',w',hr,h1,h2,h3⟩:=sm w o.type base bx v xv m hown hxo hlen hbase;obtain⟨ao,cap,rfl⟩:=aw h1;unfold Oper.wp execOp;simp only[ho,resolve,invoke,builtin,Sem.run_bind,Sem.run_pure,Result.andThen_ok,List.map_toArray,List.map_cons,List.map_nil,hs,hx,hr];exact hK _ _ (h ao cap w' h1 h2)
theorem ItB.empty (w:World):ItB (w.alloc (.cells #[] 219)) w.heap.size (.slice (some ⟨w.heap.size,0,none⟩) 0 0) []:=
 ⟨rfl,Or.inr ⟨w.heap.size,0,#[],rfl,b8 _,aO w _,by simp,by unfold maxLen;omega,rfl,rfl⟩⟩
theorem iB (b base bx:Nat) (s:ByteArray) (i:Nat) (bad mn:Bool) (v0 v1 vi:Value) (a2:Option Addr) (cap2:Nat) (bs:List bM) (X:bM) (al ai:Option Addr) (capl capi:Nat) (w:World) (hnb:bs.length<=7) (hni:X.items.length<=100) (hs:s.size<=2000)
  (hR:XrB w b s i bad v0 v1 ⟨.slice a2 bs.length cap2,.int .u8 X.cls.toNat,.int .i64 X.meth,.int .u8 X.ans.toNat,.slice al X.locals.length capl,vi,mn⟩) (hT:TbV w base (.slice a2 bs.length cap2) bs) (hl:BtB w base (.slice al X.locals.length capl) X.locals) (hi:ItB w bx (.slice ai X.items.length capi) X.items) (hb:b<base) (hbx:b<bx) (hbase:base<=w.heap.size):
  Calls prog 102 #[.pointer (some ⟨b,0,none⟩),.slice ai X.items.length capi] w λen w'=>en= .returned (.tuple #[])/\But (λk=>k=b\/(Value.slice a2 bs.length cap2).ownBlock=some k) w w'/\
   ∃a2' cap2' vi',XrB w' b s (tkP s 46 i bad).1 (tkP s 46 i bad).2 v0 v1 ⟨.slice a2' (bs++ [X]).length cap2',.int .u8 X.cls.toNat,.int .i64 X.meth,.int .u8 X.ans.toNat,.slice al X.locals.length capl,vi',mn⟩/\TbV w' base (.slice a2' (bs++ [X]).length cap2') (bs++ [X]):=by
 obtain⟨i0,g1,g5,g6,h2⟩:=info_parts yz;obtain⟨l,hO,hm,hf⟩:=hT;have e0:l.length=bs.length:=by rw[<-hm];simp
 have f4:=hid e0;rw[<-e0]at hR hO hnb⊢;clear e0;have h6:=hR.lt;have b5:=eu b s i bad _ _ _ _ 46 (by decide) hs hR;obtain⟨TK,f3⟩: ∃TK,tkP s 46 i bad=TK:=⟨_,rfl⟩;rw[f3]at b5⊢;clear f3;obtain⟨j1,f6⟩:=TK;dsimp only at b5⊢;have e1:=hid b5;clear b5
 go_in
 go_wp2_with fail;refine e1.out.mono ?_;rintro en w1 ⟨rfl,b6,c9⟩;have f0:ItB w1 bx (.slice ai X.items.length capi) X.items:=aj hi b6 (λg hg h=>by have:=ay hi g hg;omega);have h0:=b6.size;have hE:=ItB.empty w1;have d6:=c9.but (ag (λ_=>False) w1 (.cells #[] 219)) (λh=>h);go_wp2_with (at_builtin;refine kF rfl _ _ rfl w1.heap.size bx _ _ X.items rfl rfl hE (aj f0 (ag (λ_=>False) _ _) (λ_ _ h=>h)) (by omega) (by simp) ?_);intro ao cap w2 b9 e8;have a7:B_ w1 w2:=(ag (λ_=>False) _ _).next e8 (λk hk h=>by simp[Value.ownBlock]at h;omega);have b3:=c9.but a7 (λh=>h)
 have c7:=b3.d4;have g7:=b3.fz 7;have h3:=a7.size;clear f0 hE d6;go_wp2_with fail;have b4:=b3.setI (.slice ao X.items.length cap);have a8:But (· =b) w2 (w2.setCell ⟨b,7,none⟩ (.slice ao X.items.length cap)):=au _ _ _ _;have b2:ItB (w2.setCell ⟨b,7,none⟩ (.slice ao X.items.length cap)) w1.heap.size (.slice ao X.items.length cap) X.items:=aj b9 a8 (λg hg h=>by have:=ay b9 g hg;omega);have a5:But (· =b) w (w2.setCell ⟨b,7,none⟩ (.slice ao X.items.length cap)):=(b6.next a7 (λ_ _ h=>h.elim)).trans a8;revert b4 b2 a5;generalize (w2.setCell ⟨b,7,none⟩ (.slice ao X.items.length cap))=W;intro a3 b2 a5
 have g3:ItB W base (.slice ao X.items.length cap) X.items:=dn b2 (by omega);clear a8 b2 b9 e8 c7 g7 b3 c9 hi;dsimp only at a3;have f2:=aj hO a5 (λg hg h=>by have:=ay hO g hg;omega);have h8:=aW hO;have e2:=a3.c2;have e3:=a3.d0;have e4:=a3.d1;have e5:=a3.d2;have e6:=a3.d3;have e7:=a3.d4;have g2:=a3.fz 2;have bltW:=a3.lt;dsimp only at e2 e3 e4 e5 e6 e7;have ab:(Value.slice a2 l.length cap2).ownBlock≠some b:=λh=>by have:=ay hO _ h;omega
 have g0:But (λk=>(Value.slice a2 l.length cap2).ownBlock=some k) W W.drew:=aD _ _;have h5:base<=W.heap.size:=by have:=a5.size;omega
 have HM:=hid hm;clear hm e1;refine aI (But (λk=>(Value.slice a2 l.length cap2).ownBlock=some k) W) 12 ?_
 iterate 10 (refine aQ (v:=?_) rfl g0 ?_ ?_;rotate_left;(focus (intro wS h;have q0:=((h.cell (p:=⟨b,2,none⟩) bltW ab).trans e2);have q1:=((h.cell (p:=⟨b,3,none⟩) bltW ab).trans e3);have q2:=((h.cell (p:=⟨b,4,none⟩) bltW ab).trans e4);have q3:=((h.cell (p:=⟨b,5,none⟩) bltW ab).trans e5);have q4:=((h.cell (p:=⟨b,6,none⟩) bltW ab).trans e6);have q5:=((h.cell (p:=⟨b,7,none⟩) bltW ab).trans e7);clear h;go_simp;try rfl));dsimp only[Act.put];try simp only[cH])
 refine az rfl ?_;intro KS hKS;go_simp;refine hKS.out _ _ (λ_=>(ag _ _ _).trans (aD _ _)) ?_;clear hKS KS;refine az rfl ?_;intro KS hKS
 refine step_append_lies _ (by rfl) _ _ _ (by rfl) base 115 i0 _ 5 72 (by kernel_rfl) g1 g5 g6 h2 rfl (by omega) _ l.length (lH l) (by rfl) ((f2.alloc _).drew)
    ⟨W.heap.size,0,none⟩ 1 1 [.int .u8 X.cls.toNat,.int .i64 X.meth,.int .u8 X.ans.toNat,.slice al X.locals.length capl,.slice ao X.items.length cap] (by rfl) (by rfl) (fX (cs:=#[.int .u8 X.cls.toNat,.int .i64 X.meth,.int .u8 X.ans.toNat,.slice al X.locals.length capl,.slice ao X.items.length cap]) (t:=115) (fr:=(0,0)) (aO W _)) (by simp[Value.oneCell'])
    (by omega) (by unfold maxLen;omega) (by omega) (by simp;omega) (W.heap.size+1) (by simp) ?_
 intro gg cap3 w4 a1 a6 h4 g4;have b0:But (λk=>(Value.slice a2 l.length cap2).ownBlock=some k) W w4:=((ag _ _ _).trans (aD _ _)).trans (bc a6);refine hKS.out _ _ (λ_=>b0) ?_;clear hKS KS;have y0:=(b0.cell (p:=⟨b,2,none⟩) bltW ab).trans e2;have y1:=(b0.frozen (p:=⟨b,2,none⟩) bltW ab).trans g2;refine az rfl ?_;intro KS hKS;go_simp;refine hKS.out _ _ nofun ?_;clear hKS KS;refine az rfl ?_;intro KS hKS;go_simp;refine hKS.out _ _ nofun ?_;clear hKS KS;refine az rfl ?_;intro KS hKS;go_simp;refine hKS.out _ _ nofun ?_;clear hKS KS;refine az rfl ?_;intro KS hKS;go_simp;refine hKS.out _ _ nofun ?_
 clear hKS KS;refine aR rfl ?_;have h7:=ay a1 gg rfl;have b4:=(a3.but b0 ab).set2 (.slice (some ⟨gg,0,none⟩) (l.length+1) cap3);have a0:But (λk=>k=b\/(Value.slice a2 l.length cap2).ownBlock=some k) W (w4.setCell ⟨b,2,none⟩ (.slice (some ⟨gg,0,none⟩) (l.length+1) cap3)):=(b0.mono (λ_ _ h=>Or.inr h)).next (au _ _ _ _) (λ_ _ h=>Or.inl h);have f1:=aj a1 (au w4 b 2 (.slice (some ⟨gg,0,none⟩) (l.length+1) cap3)) (λg hg h=>by have:=ay a1 g hg;omega)
 have e9: ∀x∈l++ [(X,.slice al X.locals.length capl,.slice ao X.items.length cap)],BtB (w4.setCell ⟨b,2,none⟩ (.slice (some ⟨gg,0,none⟩) (l.length+1) cap3)) base x.2.1 x.1.locals/\ItB (w4.setCell ⟨b,2,none⟩ (.slice (some ⟨gg,0,none⟩) (l.length+1) cap3)) base x.2.2 x.1.items:=by
  have a4: ∀g cur e,W.heap[g]?=some (.cells cur e)->e≠115->base<=g-> ¬(g=b\/(Value.slice a2 l.length cap2).ownBlock=some g):=by
   intro g cur e hh he hg h;obtain h|h:=h
   .omega
   .exact fH f2 hh he h
  intro x hx;obtain hx|hx:=List.mem_append.1 hx
  .have h1:=hf x hx;exact⟨bj (BtB.but h1.1 a5 (λg hg h=>by have:=ay h1.1 g hg;omega)) a0 (λg cur hh hg=>a4 g cur _ hh (by decide) hg),bj (aj h1.2 a5 (λg hg h=>by have:=ay h1.2 g hg;omega)) a0 (λg cur hh hg=>a4 g cur _ hh (by decide) hg)⟩
  .simp at hx;subst hx;exact⟨bj (hl.but a5 (λg hg h=>by have:=ay hl g hg;omega)) a0 (λg cur hh hg=>a4 g cur _ hh (by decide) hg),bj g3 a0 (λg cur hh hg=>a4 g cur _ hh (by decide) hg)⟩
 have f8:TbV (w4.setCell ⟨b,2,none⟩ (.slice (some ⟨gg,0,none⟩) (l.length+1) cap3)) base (.slice (some ⟨gg,0,none⟩) (l.length+1) cap3) (bs++ [X]):=
  ⟨l++ [(X,.slice al X.locals.length capl,.slice ao X.items.length cap)],by rw[sc,aZ];exact f1,by rw[List.map_append,HM.out];rfl,e9⟩
 have f7:But (λk=>k=b\/(Value.slice a2 l.length cap2).ownBlock=some k) w (w4.setCell ⟨b,2,none⟩ (.slice (some ⟨gg,0,none⟩) (l.length+1) cap3)):=(a5.mono (λ_ _ h=>Or.inl h)).trans a0;clear e9 a0 f1;generalize (w4.setCell ⟨b,2,none⟩ (.slice (some ⟨gg,0,none⟩) (l.length+1) cap3))=W3 at*;clear y0 y1 e2 e3 e4 e5 e6 e7 g2 b0 a6;have b1:(bs++ [X]).length=l.length+1:=by rw[aZ,<-f4.out];rfl
 have f5:=hid b1;clear b1;dsimp only at b4;go_wp2_with fail;go_end0;refine⟨rfl,f7,some ⟨gg,0,none⟩,cap3,.slice ao X.items.length cap,?_⟩;rw[f5.out];exact⟨b4,f8⟩
def ir (s:ByteArray) (cs:List Cls) (ns nl i:Nat) (bad:Bool):Except Nat (List Ins×Nat):=if bad=true then .error i else dy s cs ns nl 100 [] i
def kG (s:ByteArray) (cs:List Cls) (ns nl:Nat) (R:Except Nat (List Ins×Nat)) (mm:Nat) (items:List XIt) (j:Nat) (bad:Bool):Prop:=
 (bad=false/\ ∃is,items=is.map bP/\is≠ []/\is.length+mm=100/\dy s cs ns nl mm is j=R)\/(bad=true/\R= .error j)
section
variable {s:ByteArray} {cs:List Cls} {ns nl:Nat} {R:Except Nat (List Ins×Nat)}
theorem pH {k:Nat} {is:List Ins} {j:Nat} (h: ¬((pk s j).toNat=46/\is≠ [])):dy s cs ns nl (k+1) is j=match mz s cs ns nl j with
  | .error j=> .error j
  | .ok (x,j)=>dy s cs ns nl k (is++ [x]) j:=by
 rw[dy,if_neg h]
 cases mz s cs ns nl j<;>rfl
theorem kG.start {i:Nat} {bad:Bool} (hR:ir s cs ns nl i bad=R) {x:XIt} {j:Nat} {bad':Bool} (h:iW s cs ns nl i bad x j bad'):kG s cs ns nl R 99 [x] j bad':=by
 unfold ir at hR;unfold iW qE at h
 cases bad with
 |true=>
  simp only[if_true]at h hR;obtain⟨_,y,h,_⟩ | ⟨h1,h2⟩:=h
  .cases h
  .cases h2
   exact Or.inr ⟨h1,hR.symm⟩
 |false=>
  simp only[dj,if_false]at h hR;rw[pH (by simp)]at hR;obtain⟨h1,y,h2,h3⟩ | ⟨h1,h2⟩:=h
  .rw[h2]at hR;exact Or.inl ⟨h1,[y],by simp[h3],by simp,by simp,hR⟩
  .rw[h2]at hR;exact Or.inr ⟨h1,hR.symm⟩
theorem kG.next {mm:Nat} {items:List XIt} {j:Nat} (h:kG s cs ns nl R mm items j false) (hl:items.length<100) (hp:pk s j≠46) {x:XIt} {j':Nat} {bad':Bool} (hi:iW s cs ns nl j false x j' bad'): ∃m',m'<mm/\kG s cs ns nl R m' (items++ [x]) j' bad':=by
 obtain⟨_,is,h1,h2,h3,h4⟩ | ⟨h,_⟩:=h
 .have a0:is.length<100:=by rw[h1,cP]at hl;exact hl
  obtain⟨f,rfl⟩: ∃f,mm=f+1:=⟨mm-1,by omega⟩;rw[pH (λh=>hp ((u8n (by decide)).1 h.1))]at h4;unfold iW qE at hi;simp only[dj,if_false]at hi;obtain⟨e1,y,e2,e3⟩ | ⟨e1,e2⟩:=hi
  .rw[e2]at h4;exact⟨f,by omega,Or.inl ⟨e1,is++ [y],by rw[h1,List.map_append,e3];rfl,by simp,by simp;omega,h4⟩⟩
  .rw[e2]at h4;exact⟨0,by omega,Or.inr ⟨e1,h4.symm⟩⟩
 .cases h
theorem kG.fin {mm:Nat} {items:List XIt} {j:Nat} {bad:Bool} (h:kG s cs ns nl R mm items j bad) (hx:bad=true\/ ¬items.length<100\/pk s j=46):
  ((tkP s 46 j bad).2=false/\ ∃is,R= .ok (is,(tkP s 46 j bad).1)/\items=is.map bP)\/((tkP s 46 j bad).2=true/\R= .error (tkP s 46 j bad).1):=by
 obtain⟨rfl,is,h1,h2,h3,h4⟩ | ⟨rfl,h2⟩:=h
 .by_cases hp:pk s j=46
  .left
   rw[mj hp];refine⟨rfl,is,?_,h1⟩;rw[<-h4]
   cases mm<;>simp[dy,hp,h2]
  .right
   rw[fi (Or.inr hp)];refine⟨rfl,?_⟩
   have hm:mm=0:=by
    obtain h|h|h:=hx
    .cases h
    .rw[h1,cP]at h;omega
    .exact absurd h hp
   subst hm;rw[<-h4];have: ¬((pk s j).toNat=46/\is≠ []):=λh=>hp ((u8n (by decide)).1 h.1)
   simp only[dy,if_neg this]
 .right
  rw[fi (Or.inl rfl)];exact⟨rfl,h2⟩
end
def E6 (s:ByteArray) (SC:List Cls) (a0 a1:Option Addr) (ng nl cap0 cap1:Nat) (v2:RdV) (b base:Nat) (R:Except Nat (List Ins×Nat)) (en:Ending) (w':World):Prop:=
 ∃ao cap items j bad' mm,en= .returned (.slice ao (List.length items) cap)/\XrB w' b s j bad' (.slice a0 SC.length cap0) (.slice a1 ng cap1) v2/\ItB w' base (.slice ao items.length cap) items/\items.length<=100/\
   kG s SC ng nl R mm items j bad'/\(bad'=true\/ ¬items.length<100\/pk s j=46)
theorem ou (b base:Nat) (s:ByteArray) (i:Nat) (bad:Bool) (SC:List Cls) (a0 a1 al:Option Addr) (ng nl cap0 cap1 capl:Nat) (v2:RdV) (w:World)
  (hG:bad=true\/(WfC SC/\TcV w base (.slice a0 SC.length cap0) (SC.map toX))) (hnc:SC.length<=4) (hng:ng<=3) (hnl:nl<=10) (hs:s.size<=2000)
  (hR:XrB w b s i bad (.slice a0 SC.length cap0) (.slice a1 ng cap1) v2) (hv:v2.hl= .slice al nl capl) (hb:b<base):
  Calls prog 101 #[.pointer (some ⟨b,0,none⟩)] w λen w'=>But (· =b) w w'/\
   E6 s SC a0 a1 ng nl cap0 cap1 v2 b w.heap.size (ir s SC ng nl i bad) en w':=by
 obtain⟨R,e5⟩: ∃R,ir s SC ng nl i bad=R:=⟨_,rfl⟩;rw[e5];have f0:=hid e5;clear e5;obtain⟨i0,g6,h3,h4,h5⟩:=info_parts jO;have h9:=hR.lt;have HG:=hid hG;have a7:=hid (λ(w':World) (i':Nat) (bad':Bool) (h:But (· =b) w w') (hg:bad'=true\/(WfC SC/\TcV w base (.slice a0 SC.length cap0) (SC.map toX))) (hr:XrB w' b s i' bad' (.slice a0 SC.length cap0) (.slice a1 ng cap1) v2)=>vW b base s i' SC a0 a1 al ng nl cap0 cap1 capl v2 w' bad' (hg.imp id (λq=>⟨q.1,q.2.but h (λg e cur _ _ hg he=>by omega)⟩)) hnc hng hnl hs hr hv hb);clear hG
 go_in
 go_wp2_with fail;refine(a7.out w i bad (But.refl _ _) HG.out hR).mono ?_;rintro en w1 ⟨f1,x,j1,a8,rfl,f4,e2⟩
 have g0:Hid (a8=true\/(WfC SC/\TcV w base (.slice a0 SC.length cap0) (SC.map toX))):=by
  refine hid ?_;obtain h|h:=HG.out
  .left
   obtain⟨_,y,h2,_⟩ | ⟨h2,_⟩:=e2
   .rw[h]at h2;simp[qE]at h2
   .exact h2
  .exact Or.inr h
 have f8:=hid (kG.start f0.out e2);have d6:=f1;clear e2 f0 HG;unfold itV;go_wp2_with fail;have a5:B_ w1 ((w1.alloc (.cells #[.int .i64 x.place,.int .u8 x.op.toNat,.int .u8 x.cls.toNat,.int .i64 x.num,.slice x.pa x.pn x.pc] 219)).alloc (.cells #[.int .i64 x.place,.int .u8 x.op.toNat,.int .u8 x.cls.toNat,.int .i64 x.num,.slice x.pa x.pn x.pc] 219)):=(ag _ _ _).trans (ag _ _ _)
 have e3:ItB ((w1.alloc (.cells #[.int .i64 x.place,.int .u8 x.op.toNat,.int .u8 x.cls.toNat,.int .i64 x.num,.slice x.pa x.pn x.pc] 219)).alloc (.cells #[.int .i64 x.place,.int .u8 x.op.toNat,.int .u8 x.cls.toNat,.int .i64 x.num,.slice x.pa x.pn x.pc] 219)) w1.heap.size (.slice (some ⟨w1.heap.size+1,0,none⟩) 1 1) [x]:=
  ⟨rfl,Or.inr ⟨w1.heap.size+1,1,_,rfl,by omega,aB (by simp) _,by simp,by unfold maxLen;omega,rfl,rfl⟩⟩
 revert a5 e3;generalize ((w1.alloc (.cells #[.int .i64 x.place,.int .u8 x.op.toNat,.int .u8 x.cls.toNat,.int .i64 x.num,.slice x.pa x.pn x.pc] 219)).alloc (.cells #[.int .i64 x.place,.int .u8 x.op.toNat,.int .u8 x.cls.toNat,.int .i64 x.num,.slice x.pa x.pn x.pc] 219))=w2;intro a5 e3;have g3:=f4.but a5 (λh=>h);have e0:But (· =b) w w2:=d6.next a5 (λ_ _ h=>h.elim);have e7:=f1.size;have h6:=a5.size;clear f4 a5
 go_loopg [4] 99 (λmm vs wr=> ∃(ao:Option Addr) (cap j:Nat) (bad':Bool) (items:List XIt),vs= .slice ao items.length cap/\items.length<=100/\But (· =b) w wr/\XrB wr b s j bad' (.slice a0 SC.length cap0) (.slice a1 ng cap1) v2/\ItB wr w.heap.size (.slice ao items.length cap) items/\Hid (bad'=true\/(WfC SC/\TcV w base (.slice a0 SC.length cap0) (SC.map toX)))/\Hid (kG s SC ng nl R mm items j bad'))
 case atStart=>exact⟨_,1,j1,a8,[x],rfl,by simp,e0,g3,dn e3 e7,g0,f8⟩
 case round=>
  obtain⟨ao,cap,j,bad',items,rfl,f6,b0,a6,c7,e8,b9⟩:=hrel;have h1:=b0.size;have h8:=a6.lt
  by_cases hlt:items.length<100
  .have g7:(items.length:Int)<100:=by omega
   by_cases hgo:bad'=false/\pk s j≠46
   .obtain⟨rfl,e6⟩:=hgo;have b4:(!false&& !decide (pk s j=46))=true:=by simp[e6]
    have a2:=dt b s j false _ _ _ wr 46 a6;rw[b4]at a2;have c9:=hid a2;have e9:=hid (λx j' bad'=>b9.out.next hlt e6 (x:=x) (j':=j') (bad':=bad'));clear b4 a2 e6 b9;go_wp2_with fail;refine c9.out.mono ?_;rintro en w3 ⟨rfl,k,rfl⟩;go_wp2_with fail;refine(a7.out (wr.drewN k) j false (b0.trans (aK _ _ _)) e8.out (a6.drewN k)).mono ?_;rintro en w4 ⟨g2,y,j4,a3,rfl,g4,f3⟩;obtain⟨m',i1,f2⟩:=e9.out y j4 a3 f3;have f7:=hid f2
    have g1:Hid (a3=true\/(WfC SC/\TcV w base (.slice a0 SC.length cap0) (SC.map toX))):=by
     refine hid (Or.inr ?_);obtain h|h:=e8.out
     .cases h
     .exact h
    have a4:But (· =b) wr w4:=(aK _ _ _).trans g2;have b1:But (· =b) w w4:=b0.trans a4;have b3:w4.ownsRow w.heap.size 219 5 (.slice ao items.length cap) items.length (bX items):=aj c7 a4 (λg hg h=>by have:=ay c7 g hg;omega);have b2:=ay b3;have i2:=b1.size;have i3:=a4.size;clear f3 f2 e9;unfold itV;go_wp2_with (at_builtin;refine wpList_append_lies _ rfl _ _ _ rfl w.heap.size 219 i0 _ 5 48 (by kernel_rfl) g6 h3 h4 h5 rfl (by omega) _ items.length (bX items) rfl ((b3.alloc _).alloc _) ⟨w4.heap.size+1,0,none⟩ 1 1 [.int .i64 y.place,.int .u8 y.op.toNat,.int .u8 y.cls.toNat,.int .i64 y.num,.slice y.pa y.pn y.pc] rfl rfl (fX (cs:=#[.int .i64 y.place,.int .u8 y.op.toNat,.int .u8 y.cls.toNat,.int .i64 y.num,.slice y.pa y.pn y.pc]) (t:=219) (fr:=(0,0)) (aB (by simp) _)) (by simp[Value.oneCell']) (by omega) (by unfold maxLen;omega) (by omega) (by simp;omega) (w4.heap.size+2) (by simp) ?_)
    intro gg cap3 w5 b6 b5 h7 h0;have f5:But (λk'=>(Value.slice ao items.length cap).ownBlock=some k') w4 w5:=((ag _ _ _).trans (ag _ _ _)).trans (bc b5);have e1:But (· =b) w w5:=b1.next f5 (λk' hk' h=>absurd (b2 k' h) (by omega));have g5:=g4.but f5 (λh=>by have:=b2 _ h;omega)
    have e4:ItB w5 w.heap.size (.slice (some ⟨gg,0,none⟩) (items++ [y]).length cap3) (items++ [y]):=by
     unfold ItB;rw[aZ,f9];exact b6
    go_wp2_with fail
    go_roundg m'
    case measure=>omega
    case rel=>exact⟨_,cap3,j4,a3,items++ [y],by simp,by simp;omega,e1,g5,e4,g1,f7⟩
   .have b4:(!bad'&& !decide (pk s j=46))=false:=by
     cases bad' with
     |true=>rfl
     |false=>
      by_cases h:pk s j=46
      .simp[h]
      .exact absurd ⟨rfl,h⟩ hgo
    have hx:bad'=true\/ ¬items.length<100\/pk s j=46:=by
     cases bad' with
     |true=>exact Or.inl rfl
     |false=>
      right;right
      by_cases h:pk s j=46
      .exact h
      .exact absurd ⟨rfl,h⟩ hgo
    have HX:=hid hx;have a2:=dt b s j bad' _ _ _ wr 46 a6;rw[b4]at a2;have c9:=hid a2;clear b4 a2 hx hgo;go_wp2_with fail;refine c9.out.mono ?_;rintro en w3 ⟨rfl,k,rfl⟩;go_wp2_with fail;exact du (.slice ao items.length cap) results101 rfl rfl ⟨b0.trans (aK _ _ _),⟨ao,cap,items,j,bad',_,rfl,a6.drewN k,aj c7 (aK (λ_=>False) _ _) (λ_ _ h=>h),f6,b9.out,HX.out⟩⟩
  .have g7: ¬(items.length:Int)<100:=by omega
   go_wp2_with fail;exact du (.slice ao items.length cap) results101 rfl rfl ⟨b0,⟨ao,cap,items,j,bad',_,rfl,a6,c7,f6,b9.out,Or.inr (Or.inl hlt)⟩⟩
theorem ug (s:ByteArray) (w:World):
  Calls prog 97 #[.string s] w λen w'=>en= .returned (.pointer (some ⟨w.heap.size,0,none⟩))/\B_ w w'/\w.heap.size<w'.heap.size/\XrB w' w.heap.size s 0 false S_ S_ ⟨S_,.int .u8 0,.int .i64 0,.int .u8 0,S_,S_,false⟩:=by
 go_in
 go_wp2
 go_ret;exact⟨rfl,ag _ _ _,by simp,aO _ _⟩
def Ee (s:ByteArray) (nc:Nat) (gs:List Sig) (BS:List Bod) (i:Nat) (a0:Option Addr) (cap0:Nat) (v1:Value) (a2:Option Addr) (n cap2 b base:Nat) (w':World):Prop:=
 ∃(c:UInt8) (m:Nat) (r:UInt8) (ao:Option Addr) (cap:Nat) (l:L_) (j:Nat) (bad':Bool),XrB w' b s j bad' (.slice a0 nc cap0) v1 ⟨.slice a2 n cap2,.int .u8 (UInt8.toNat c),.int .i64 m,.int .u8 (UInt8.toNat r),.slice ao (List.length l) cap,S_,false⟩/\BtB w' base (.slice ao l.length cap) l/\l.length<=5/\
   ((bad'=false/\ ∃x t,gj s nc gs BS i= .ok ((x,m,t),j)/\c=UInt8.ofNat (65+x)/\x<nc/\m<gs.length/\r=(dx gs m).ret/\l=c::(dx gs m).arg::t)\/(bad'=true/\gj s nc gs BS i= .error j))
def Ef (s:ByteArray) (nc i:Nat) (bad:Bool) (a0:Option Addr) (cap0:Nat) (v1:Value) (a2:Option Addr) (n cap2 b base:Nat) (w':World):Prop:=
 ∃(ao:Option Addr) (cap:Nat) (l:L_) (j:Nat) (bad':Bool),XrB w' b s j bad' (.slice a0 nc cap0) v1 ⟨.slice a2 n cap2,.int .u8 45,.int .i64 0,.int .u8 105,.slice ao (List.length l) cap,S_,true⟩/\BtB w' base (.slice ao l.length cap) l/\l.length<=3/\
   ((bad'=false/\fw s nc 58 3 i bad= .ok (l,j))\/(bad'=true/\fw s nc 58 3 i bad= .error j))
theorem kZ (b:Nat) (s:ByteArray) (i:Nat) (bad:Bool) (v0 v1:Value) (v2:RdV) (w:World) (hR:XrB w b s i bad v0 v1 v2) (hx:v2.main=true\/bad=true):
  Calls prog 100 #[.pointer (some ⟨b,0,none⟩)] w λe w'=>e= .returned (.bool false)/\ ∃m,w'=w.drewN m:=by
 have h4:=hR.c4;have h5:=hR.d5
 cases hm:v2.main with
 |true=>
  rw[hm]at h5
  go_in
  go_wp2_with fail;exact du (.bool false) results100 rfl rfl ⟨rfl,0,rfl⟩
 |false=>
  rw[hm]at h5;have hb:bad=true:=by rcases hx with h|h;(rw[hm]at h;cases h);exact h
  subst hb
  go_in
  go_wp2_with fail;exact du (.bool false) results100 rfl rfl ⟨rfl,0,rfl⟩
theorem ld (b base:Nat) (s:ByteArray) (i:Nat) (a0 a2:Option Addr) (nc cap0 n cap2:Nat) (v1 x0 x1 x2 x3 x4:Value) (w:World) (gs:List Sig) (BS:List Bod) (xs:List bM) (hxs:xs.map kK=(BS.map (bu gs)).map kK) (hnc:nc<=4) (hgs:gs.length<=3) (hBS:BS.length<=6) (hsb: ∀b∈BS,(b.cls= -1)\/gF b) (hs:s.size<=2000)
  (hR:XrB w b s i false (.slice a0 nc cap0) v1 ⟨.slice a2 n cap2,x0,x1,x2,x3,x4,false⟩) (hM:TmV w base v1 gs) (hBd:TbV w base (.slice a2 n cap2) xs) (hb:b<base) (hn:n<6) (hp:pk s i≠59):
  Calls prog 100 #[.pointer (some ⟨b,0,none⟩)] w λen w'=>But (· =b) w w'/\en= .returned (.bool true)/\Ee s nc gs BS i a0 cap0 v1 a2 n cap2 b w.heap.size w':=by
 have h2:=hR.c2;have h4:=hR.c4;have h5:=hR.d5;have b5:(n:Int)<6:=by omega
 have b4:=hR.lt;have a3:=dt b s i false _ _ _ w 59 hR;rw[show(!false&& !decide (pk s i=59))=true from by simp[hp]]at a3;have a4:=hid a3;have a5:=hid (λk=>yw b base s i a0 nc cap0 v1 ⟨.slice a2 n cap2,x0,x1,x2,x3,x4,false⟩ (w.drewN k) gs BS xs hxs hnc hgs hBS hsb hs (hR.drewN k) (hM.but (aK (λ_=>False) _ _) (λ_ _ _ _ _ _ h=>h)) (hBd.but (aK (λ_=>False) _ _) (λ_ _ _ _ _ _ h=>h)) hb);clear a3 hp hM hBd hsb hBS hn hxs;dsimp only at h2 h5
 go_in
 go_wp2_with fail;refine a4.out.mono ?_;rintro en w1 ⟨rfl,k,rfl⟩;go_wp2_with fail;refine(a5.out k).mono ?_;rintro en w2 ⟨b1,c,m,r,ao,cap,l,j,bad',rfl,a1,a7,b3,a8⟩;have b0:=hid a8;have e0:=a1.d0;have e1:=a1.d1;have e2:=a1.d2;have e3:=a1.d3;have e4:=a1.d4;have g0:=a1.fz 3;have g1:=a1.fz 4;have g2:=a1.fz 5;have g3:=a1.fz 6;have g4:=a1.fz 7;clear a8 h2 h4 h5 a4 a5;unfold hdV;go_wp2_with fail;have b2:=a1.setB (.int .u8 c.toNat) (.int .i64 m) (.int .u8 r.toNat) (.slice ao l.length cap) S_
 have a6:But (· =b) w2 (((((w2.setCell ⟨b,3,none⟩ (.int .u8 c.toNat)).setCell ⟨b,4,none⟩ (.int .i64 m)).setCell ⟨b,5,none⟩ (.int .u8 r.toNat)).setCell ⟨b,6,none⟩ (.slice ao l.length cap)).setCell ⟨b,7,none⟩ S_):=
  ((((au _ _ _ _).trans (au _ _ _ _)).trans (au _ _ _ _)).trans (au _ _ _ _)).trans (au _ _ _ _)
 exact du (.bool true) results100 rfl rfl ⟨((aK _ _ _).trans b1).trans a6,rfl,c,m,r,ao,cap,l,j,bad',b2,BtB.but a7 a6 (λg hg h=>by have:=ay a7 g hg;have:w.heap.size<=g:=this;omega),b3,b0.out⟩
theorem lh (b:Nat) (s:ByteArray) (i:Nat) (a0 a2:Option Addr) (nc cap0 n cap2:Nat) (v1 x0 x1 x2 x3 x4:Value) (w:World) (hnc:nc<=4) (hs:s.size<=2000)
  (hR:XrB w b s i false (.slice a0 nc cap0) v1 ⟨.slice a2 n cap2,x0,x1,x2,x3,x4,false⟩) (hx: ¬n<6\/pk s i=59):
  Calls prog 100 #[.pointer (some ⟨b,0,none⟩)] w λen w'=>But (· =b) w w'/\en= .returned (.bool true)/\Ef s nc (tkP s 59 i false).1 (tkP s 59 i false).2 a0 cap0 v1 a2 n cap2 b w.heap.size w':=by
 have h2:=hR.c2;have h4:=hR.c4;have h5:=hR.d5;have g5:=hR.fz 10;have e8:=hR.lt;dsimp only at h2 h5;obtain⟨TK,c7⟩: ∃TK,tkP s 59 i false=TK:=⟨_,rfl⟩;rw[c7];obtain⟨j1,a6⟩:=TK;dsimp only;have a5:=hid (λ(wx:World) (h:XrB wx b s i false (.slice a0 nc cap0) v1 ⟨.slice a2 n cap2,x0,x1,x2,x3,x4,true⟩)=>eu b s i false _ _ _ wx 59 (by decide) hs h);rw[c7]at a5;clear c7;have e5:Hid (∀(w1 w2 w3:World),But (· =b) w w1->w.heap.size<=w1.heap.size->True):=hid (λ_ _ _ _ _=>trivial)
 by_cases hnI:(n:Int)<6
 .have hp:pk s i=59:=by
   obtain h|h:=hx
   .omega
   .exact h
  have a4:=dt b s i false _ _ _ w 59 hR;rw[show(!false&& !decide (pk s i=59))=false from by simp[hp]]at a4;have d6:=hid a4;clear a4 hp hx
  go_in
  go_wp2_with fail;refine d6.out.mono ?_;rintro en w1 ⟨rfl,k,rfl⟩;have b2:=(hR.drewN k).setM true;have b0:But (· =b) w ((w.drewN k).setCell ⟨b,10,none⟩ (.bool true)):=(aK _ _ _).trans (au _ _ _ _);have e7:=b0.size;go_wp2_with fail;refine(a5.out _ b2).mono ?_;rintro en w2 ⟨rfl,a7,b6⟩;have e6:=a7.size;have a3:=b0.trans a7;clear h2 h4 h5 g5 d6 a5 b2;go_wp2_with fail;refine(lT b s j1 a6 a0 nc cap0 _ _ w2 hnc hs b6).mono ?_;rintro en w3 ⟨b5,ao,cap,l,j,bad',rfl,a1,b1,c9,b3⟩;have b4:=hid b3;have e0:=a1.d0;have e1:=a1.d1;have e2:=a1.d2;have e3:=a1.d3;have e4:=a1.d4;have g0:=a1.fz 3;have g1:=a1.fz 4;have g2:=a1.fz 5
  have g3:=a1.fz 6;have g4:=a1.fz 7;clear b3;unfold hdV;simp only[show(UInt8.toNat 45)=45 from rfl,show(UInt8.toNat 105)=105 from rfl];go_wp2_with fail;have b9:=a1.setB (.int .u8 45) (.int .i64 0) (.int .u8 105) (.slice ao l.length cap) S_
  have a8:But (· =b) w3 (((((w3.setCell ⟨b,3,none⟩ (.int .u8 45)).setCell ⟨b,4,none⟩ (.int .i64 0)).setCell ⟨b,5,none⟩ (.int .u8 105)).setCell ⟨b,6,none⟩ (.slice ao l.length cap)).setCell ⟨b,7,none⟩ S_):=
   ((((au _ _ _ _).trans (au _ _ _ _)).trans (au _ _ _ _)).trans (au _ _ _ _)).trans (au _ _ _ _)
  exact du (.bool true) results100 rfl rfl ⟨(a3.trans b5).trans a8,rfl,ao,cap,l,j,bad',b9,BtB.but (dn b1 (by omega)) a8 (λg hg h=>by have:=ay b1 g hg;omega),c9,b4.out⟩
 .clear hx;have b2:=hR.setM true;have b0:But (· =b) w (w.setCell ⟨b,10,none⟩ (.bool true)):=au _ _ _ _;have e7:=b0.size
  go_in
  go_wp2_with fail;refine(a5.out _ b2).mono ?_;rintro en w2 ⟨rfl,a7,b6⟩;have e6:=a7.size;have a3:=b0.trans a7;clear h2 h4 h5 g5 a5 b2;go_wp2_with fail;refine(lT b s j1 a6 a0 nc cap0 _ _ w2 hnc hs b6).mono ?_;rintro en w3 ⟨b5,ao,cap,l,j,bad',rfl,a1,b1,c9,b3⟩;have b4:=hid b3;have e0:=a1.d0;have e1:=a1.d1;have e2:=a1.d2;have e3:=a1.d3;have e4:=a1.d4;have g0:=a1.fz 3;have g1:=a1.fz 4;have g2:=a1.fz 5;have g3:=a1.fz 6;have g4:=a1.fz 7;clear b3;unfold hdV;simp only[show(UInt8.toNat 45)=45 from rfl,show(UInt8.toNat 105)=105 from rfl];go_wp2_with fail;have b9:=a1.setB (.int .u8 45) (.int .i64 0) (.int .u8 105) (.slice ao l.length cap) S_
  have a8:But (· =b) w3 (((((w3.setCell ⟨b,3,none⟩ (.int .u8 45)).setCell ⟨b,4,none⟩ (.int .i64 0)).setCell ⟨b,5,none⟩ (.int .u8 105)).setCell ⟨b,6,none⟩ (.slice ao l.length cap)).setCell ⟨b,7,none⟩ S_):=
   ((((au _ _ _ _).trans (au _ _ _ _)).trans (au _ _ _ _)).trans (au _ _ _ _)).trans (au _ _ _ _)
  exact du (.bool true) results100 rfl rfl ⟨(a3.trans b5).trans a8,rfl,ao,cap,l,j,bad',b9,BtB.but (dn b1 (by omega)) a8 (λg hg h=>by have:=ay b1 g hg;omega),c9,b4.out⟩
def Dn (s:ByteArray) (i:Nat) (bad:Bool) (b:Nat) (w:World) (en:Ending) (w':World):Prop:=
 ((bad||decide (i<s.size))=true/\ ∃g,w.heap.size<=g/\en= .returned (.tuple #[.pointer (some ⟨g,0,none⟩),.int .i64 i])/\w'.heap[g]?=some (.cells #[S_,S_,S_] 109))\/
    ((bad||decide (i<s.size))=false/\en= .returned (.tuple #[.pointer (some ⟨b,0,none⟩),.int .i64 (-1)]))
theorem ov (b:Nat) (s:ByteArray) (i:Nat) (bad:Bool) (v0 v1:Value) (v2:RdV) (w:World) (hR:XrB w b s i bad v0 v1 v2):
  Calls prog 103 #[.pointer (some ⟨b,0,none⟩)] w λen w'=>B_ w w'/\Dn s i bad b w en w':=by
 have p3:=hR.c3;have p4:=hR.c4;have p5:=hR.c5;have a7:=hR.lt
 cases bad with
 |true=>
   go_in
   go_wp2
   go_quiet (fail)
   go_wp2_with fail;have a1:=hR.drewN nq;have a0:B_ w (w.drewN nq):=aK _ _ _;have a4:w.heap.size<=(w.drewN nq).heap.size:=a0.size;revert a1 a0 a4;generalize (w.drewN nq)=V;intro a1 a0 a4;have p6:=a1.c3;have a3:=a1.lt;clear p3 p4 p5 hR;have a2:B_ V V.drew:=aD _ _;refine dv (B_ V) 7 ?_;refine dg [2,3,4,5,0] ?_
   iterate 5 (refine dw (v:=?_) rfl a2 ?_ ?_;rotate_left;(focus (intro wS h;have q0:=(h.kc p6 a3);clear h;go_simp;try rfl));dsimp only[Act.put];try simp only[cH])
   refine aG (k:=1) rfl ?_;intro KS hKS;go_simp;refine hKS.out _ _ (λ_=>a2.trans (ag _ _ _)) ?_;clear hKS KS;refine aG (k:=6) rfl ?_;intro KS hKS;go_simp;refine hKS.out _ _ (λ_=>a2.trans (ag _ _ _)) ?_;clear hKS KS;refine aG (k:=7) rfl ?_;intro KS hKS;go_simp;refine hKS.out _ _ nofun ?_;clear hKS KS;refine dl rfl ?_;have a5:B_ V (V.drew.alloc (.cells #[S_,S_,S_] 109)):=(aD _ _).trans (ag _ _ _);have a6:=aO V.drew (.cells #[S_,S_,S_] 109);go_wp2_with fail;exact cW (v:= .tuple #[.pointer (some ⟨V.heap.size,0,none⟩),.int .i64 i]) (by simp[results,results103,go_sem]) rfl ⟨a0.trans a5,Or.inl ⟨rfl,V.heap.size,a4,rfl,a6⟩⟩
 |false=>
  by_cases hi:(i:Int)<(s.size:Int)
  .have HI:Hid ((false||decide (i<s.size))=true):=hid (by simp;omega)
   go_in
   go_wp2
   go_quiet (fail)
   go_wp2_with fail;have a1:=hR.drewN nq;have a0:B_ w (w.drewN nq):=aK _ _ _;have a4:w.heap.size<=(w.drewN nq).heap.size:=a0.size;revert a1 a0 a4;generalize (w.drewN nq)=V;intro a1 a0 a4;have p6:=a1.c3;have a3:=a1.lt;clear p3 p4 p5 hR;have a2:B_ V V.drew:=aD _ _;refine dv (B_ V) 7 ?_;refine dg [2,3,4,5,0] ?_
   iterate 5 (refine dw (v:=?_) rfl a2 ?_ ?_;rotate_left;(focus (intro wS h;have q0:=(h.kc p6 a3);clear h;go_simp;try rfl));dsimp only[Act.put];try simp only[cH])
   refine aG (k:=1) rfl ?_;intro KS hKS;go_simp;refine hKS.out _ _ (λ_=>a2.trans (ag _ _ _)) ?_;clear hKS KS;refine aG (k:=6) rfl ?_;intro KS hKS;go_simp;refine hKS.out _ _ (λ_=>a2.trans (ag _ _ _)) ?_;clear hKS KS;refine aG (k:=7) rfl ?_;intro KS hKS;go_simp;refine hKS.out _ _ nofun ?_;clear hKS KS;refine dl rfl ?_;have a5:B_ V (V.drew.alloc (.cells #[S_,S_,S_] 109)):=(aD _ _).trans (ag _ _ _);have a6:=aO V.drew (.cells #[S_,S_,S_] 109);go_wp2_with fail;exact cW (v:= .tuple #[.pointer (some ⟨V.heap.size,0,none⟩),.int .i64 i]) (by simp[results,results103,go_sem]) rfl ⟨a0.trans a5,Or.inl ⟨HI.out,V.heap.size,a4,rfl,a6⟩⟩
  .have HI:Hid ((false||decide (i<s.size))=false):=hid (by simp;omega)
   go_in
   go_wp2
   go_quiet (fail)
   go_wp2_with fail;exact cW (v:= .tuple #[.pointer (some ⟨b,0,none⟩),.int .i64 (-1)]) (by simp[results,results103,go_sem]) rfl ⟨aK _ _ _,Or.inr ⟨HI.out,rfl⟩⟩
def vX (Gd:Prop) (s:ByteArray) (cs:List Cls) (gs:List Sig) (R:Except Nat (List Bod×Nat)) (mm:Nat) (bs:List bM) (j:Nat) (bad:Bool):Prop:=
 (bad=false/\Gd/\ ∃BS,bs=BS.map (bu gs)/\(∀b∈BS,gF b)/\BS.length+mm=6/\fU s cs gs mm BS j=R)\/(bad=true/\R= .error j)
section
variable {Gd:Prop} {s:ByteArray} {cs:List Cls} {gs:List Sig} {R:Except Nat (List Bod×Nat)}
theorem yA {k:Nat} {BS:List Bod} {i:Nat} (h:(pk s i).toNat≠59):fU s cs gs (k+1) BS i=match gj s cs.length gs BS i with
  | .error j=> .error j
  | .ok ((x,m,t),p)=>
   match dy s cs gs.length (t.length+2) 100 [] p with
   | .error q=> .error q
   | .ok (is,q)=>fU s cs gs k (BS++ [⟨x,m,UInt8.ofNat (65+x)::jD gs m::t,is⟩]) q:=by
 unfold gj;rw[fU,if_neg h]
 cases eX s cs.length i with
 |error j=>rfl
 |ok y=>
  obtain⟨x,j⟩:=y;simp only
  cases ej s gs.length j with
  |error l=>rfl
  |ok z=>
   obtain⟨m,l⟩:=z;simp only
   split
   .rfl
   .cases tys s cs.length 58 3 [] l with
    |error p=>rfl
    |ok t=>
     obtain⟨t,p⟩:=t;simp only
     cases dy s cs gs.length (t.length+2) 100 [] p<;>rfl
theorem vX.fin {mm:Nat} {bs:List bM} {j:Nat} {bad:Bool} (h:vX Gd s cs gs R mm bs j bad) (hx: ¬bs.length<6\/(!bad&& !decide (pk s j=59))=false):
  ((tkP s 59 j bad).2=false/\Gd/\ ∃BS,R= .ok (BS,(tkP s 59 j bad).1)/\bs=BS.map (bu gs)/\ ∀b∈BS,gF b)\/((tkP s 59 j bad).2=true/\R= .error (tkP s 59 j bad).1):=by
 obtain⟨rfl,hG,BS,h1,h2,h3,h4⟩ | ⟨rfl,h2⟩:=h
 .by_cases hp:pk s j=59
  .left
   rw[mj hp];refine⟨rfl,hG,BS,?_,h1,h2⟩;rw[<-h4]
   cases mm<;>simp[fU,hp]
  .right
   rw[fi (Or.inr hp)];refine⟨rfl,?_⟩
   have hm:mm=0:=by
    obtain h|h:=hx
    .rw[h1,cP]at h;omega
    .simp[hp]at h
   subst hm;rw[<-h4];have:(pk s j).toNat≠59:=λh=>hp ((u8n (by decide)).1 h)
   simp[fU,this]
 .right
  rw[fi (Or.inl rfl)];exact⟨rfl,h2⟩
theorem ra {m:Nat} (h:m<gs.length):(dx gs m).arg=jD gs m:=by
 unfold dx jD;rw[aH h]
 rfl
theorem vX.next {mm:Nat} {bs:List bM} {j:Nat} (h:vX Gd s cs gs R mm bs j false) (hnc:cs.length<=4) (hl:bs.length<6) (hp:pk s j≠59):
  Gd/\ ∃BS,bs=BS.map (bu gs)/\(∀b∈BS,gF b)/\BS.length<=6/\ ∀c m r l j1 a0,((a0=false/\ ∃x t,gj s cs.length gs BS j= .ok ((x,m,t),j1)/\c=UInt8.ofNat (65+x)/\x<cs.length/\m<gs.length/\r=(dx gs m).ret/\l=c::(dx gs m).arg::t)\/(a0=true/\gj s cs.length gs BS j= .error j1))->
   ∀X j2 a1,((a1=false/\ ∃is,ir s cs gs.length l.length j1 a0= .ok (is,j2)/\X=⟨c,m,r,l,is.map bP⟩)\/(a1=true/\ir s cs gs.length l.length j1 a0= .error j2))->
   ∃m',m'<mm/\vX Gd s cs gs R m' (bs++ [X]) j2 a1:=by
 obtain⟨_,hG,BS,h1,h2,h3,h4⟩ | ⟨h,_⟩:=h
 .have a4:BS.length<6:=by rw[h1,cP]at hl;exact hl
  refine⟨hG,BS,h1,h2,by omega,?_⟩;intro c m r l j1 a0 hh X j2 a1 hc;obtain⟨f,rfl⟩: ∃f,mm=f+1:=⟨mm-1,by omega⟩;have a2:(pk s j).toNat≠59:=λh=>hp ((u8n (by decide)).1 h)
  rw[yA a2]at h4;obtain⟨rfl,x,t,e1,e2,e3,e4,e5,e6⟩ | ⟨rfl,e1⟩:=hh
  .rw[e1]at h4;simp only at h4;unfold ir at hc;simp only[dj,if_false]at hc;rw[show l.length=t.length+2 from by rw[e6];rfl]at hc;obtain⟨rfl,is,c1,c2⟩ | ⟨rfl,c1⟩:=hc
   .rw[c1]at h4;refine⟨f,by omega,Or.inl ⟨rfl,hG,BS++ [⟨x,m,UInt8.ofNat (65+x)::jD gs m::t,is⟩],?_,?_,by simp;omega,h4⟩⟩
    .rw[h1,List.map_append,c2];simp only[List.map_cons,List.map_nil,bu]
     congr 2
     rw[e6,e5,e2,ra e4];have a3: ¬((x:Int)<0):=by omega
     simp[a3]
    .intro b hb;obtain hb|hb:=List.mem_append.1 hb
     .exact h2 b hb
     .simp at hb;subst hb;exact⟨by simp,by simp;omega,by simp⟩
   .rw[c1]at h4;exact⟨0,by omega,Or.inr ⟨rfl,h4.symm⟩⟩
  .rw[e1]at h4;simp only at h4;unfold ir at hc;simp only[if_true]at hc;obtain⟨_,is,c1,_⟩ | ⟨rfl,c1⟩:=hc
   .cases c1
   .cases c1
    exact⟨0,by omega,Or.inr ⟨rfl,h4.symm⟩⟩
 .cases h
end
structure eS (w:World) (b:Nat) (im:Img):Prop where
 cls:TxC w b (im.zz.map toX)
 met:TxM w b im.zj
 bod:TxB w b (im.zq.map (bu im.zj))
theorem AG {s:ByteArray} {SC:List Cls} {n:Nat} {ms:List Sig} {cs:List bV} {bs:List bM} {l:L_} {X:bM} {j0 j1 j2 j3 j4:Nat} {b0 b1 b2 b3 b4:Bool} {R:Except Nat (List Bod×Nat)}
  (hcls:(b0=false/\ ∃SC',ep s 4 [] 0= .ok (SC',j0)/\SC'=SC/\cs=SC.map toX/\WfC SC)\/(b0=true/\ep s 4 [] 0= .error j0)) (hn:SC.length=n)
  (hsig:(b1=false/\mU s n j0 b0= .ok (ms,j1))\/(b1=true/\mU s n j0 b0= .error j1))
  (hR:(if b1=true then .error j1 else fU s SC ms 6 [] j1)=R)
  (hbod:(b2=false/\(b1=false)/\ ∃BS,R= .ok (BS,j2)/\bs=BS.map (bu ms)/\ ∀b∈BS,gF b)\/(b2=true/\R= .error j2))
  (hmain:(b3=false/\fw s n 58 3 j2 b2= .ok (l,j3))\/(b3=true/\fw s n 58 3 j2 b2= .error j3))
  (hcode:(b4=false/\ ∃is,ir s SC ms.length l.length j3 b3= .ok (is,j4)/\X=⟨45,0,105,l,is.map bP⟩)\/(b4=true/\ir s SC ms.length l.length j3 b3= .error j4)):
  ((b4||decide (j4<s.size))=true/\ec s= .error j4)\/((b4||decide (j4<s.size))=false/\ ∃im,ec s= .ok im/\im.zz=SC/\cs=SC.map toX/\im.zj=ms/\bs++ [X]=im.zq.map (bu ms)):=by
 unfold ec;obtain⟨rfl,SC',hc,rfl,a3,a4⟩ | ⟨rfl,hc⟩:=hcls
 .rw[hc];simp only;unfold mU at hsig;simp only[dj,if_false]at hsig;rw[hn];obtain⟨rfl,a1⟩ | ⟨rfl,a1⟩:=hsig
  .rw[a1];simp only;simp only[dj,if_false]at hR;rw[hR];obtain⟨rfl,_,BS,hb,a2,_⟩ | ⟨rfl,hb⟩:=hbod
   .rw[hb];simp only;unfold fw at hmain;simp only[dj,if_false]at hmain;obtain⟨rfl,hm⟩ | ⟨rfl,hm⟩:=hmain
    .rw[hm];simp only;unfold ir at hcode;simp only[dj,if_false]at hcode;obtain⟨rfl,is,a0,hX⟩ | ⟨rfl,a0⟩:=hcode
     .rw[a0];simp only
      by_cases hlt:j4<s.size
      .left
       rw[if_pos hlt];exact⟨by simp[hlt],rfl⟩
      .right
       rw[if_neg hlt];refine⟨by simp[hlt],_,rfl,rfl,a3,rfl,?_⟩;rw[a2,hX,List.map_append]
       rfl
     .rw[a0];exact Or.inl ⟨rfl,rfl⟩
    .rw[hm];unfold ir at hcode;simp only[if_true]at hcode;obtain⟨_,is,a0,_⟩ | ⟨rfl,a0⟩:=hcode
     .cases a0
     .cases a0
      exact Or.inl ⟨rfl,rfl⟩
   .rw[hb];unfold fw at hmain;simp only[if_true]at hmain;obtain⟨_,hm⟩ | ⟨rfl,hm⟩:=hmain
    .cases hm
    .cases hm
     unfold ir at hcode;simp only[if_true]at hcode;obtain⟨_,is,a0,_⟩ | ⟨rfl,a0⟩:=hcode
     .cases a0
     .cases a0
      exact Or.inl ⟨rfl,rfl⟩
  .rw[a1];simp only[if_true]at hR;subst hR;obtain⟨_,h,_⟩ | ⟨rfl,hb⟩:=hbod
   .cases h
   .cases hb
    unfold fw at hmain;simp only[if_true]at hmain;obtain⟨_,hm⟩ | ⟨rfl,hm⟩:=hmain
    .cases hm
    .cases hm
     unfold ir at hcode;simp only[if_true]at hcode;obtain⟨_,is,a0,_⟩ | ⟨rfl,a0⟩:=hcode
     .cases a0
     .cases a0
      exact Or.inl ⟨rfl,rfl⟩
 .rw[hc];unfold mU at hsig;simp only[if_true]at hsig;obtain⟨_,h⟩ | ⟨rfl,a1⟩:=hsig
  .cases h
  .cases a1
   simp only[if_true]at hR;subst hR;obtain⟨_,h,_⟩ | ⟨rfl,hb⟩:=hbod
   .cases h
   .cases hb
    unfold fw at hmain;simp only[if_true]at hmain;obtain⟨_,hm⟩ | ⟨rfl,hm⟩:=hmain
    .cases hm
    .cases hm
     unfold ir at hcode;simp only[if_true]at hcode;obtain⟨_,is,a0,_⟩ | ⟨rfl,a0⟩:=hcode
     .cases a0
     .cases a0
      exact Or.inl ⟨rfl,rfl⟩
end
end Go.Proofs.YtpfkkmacakjmbaaGreatDoor
