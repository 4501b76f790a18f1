import Derived.Test.YtpfkkmacakjmbaaGreatDoorP18
import Derived.Test.YtpfkkmacakjmbaaGreatDoorP01
set_option maxRecDepth 100000
set_option maxHeartbeats 6400000
set_option linter.unusedSimpArgs false
set_option linter.unusedVariables false
namespace Go.Proofs.YtpfkkmacakjmbaaGreatDoor
section
open Go Go.RowKit Sp
attribute [local go_sem ↓] Go.wp_at_zero Go.wp_at_succ
theorem u7:(Tryz.prog.info? 115).map (fun i=>(i.zero,i.size,i.bytes))=some (some (.agg #[.int .u8 0,.int .i64 0,.int .u8 0,.slice none 0 0,.slice none 0 0]),5,72):=by kernel_rfl
theorem gY:(Tryz.prog.info? 219).map (fun i=>(i.zero,i.size,i.bytes))=some (some (.agg #[.int .i64 0,.int .u8 0,.int .u8 0,.int .i64 0,.slice none 0 0]),5,48):=by kernel_rfl
theorem ru (l:List XIt): ∀u∈bo l,u.oneCell'=true:=by
 intro u hu;obtain⟨x,_,hx⟩:=List.mem_flatMap.1 hu;simp only[List.mem_cons,List.not_mem_nil,or_false]at hx;rcases hx with h|h|h|h|h<;>(rw[h];rfl)
theorem pL (w:World) (ty:TypeId) (base bx:Nat) (v xv:Value) (m:List XIt) (hown:ItB w base v []) (hx:ItB w bx xv m) (hlen:m.length≤100000) (hbase:base≤w.heap.size):
  ∃v' w',(Builtin.append_ #[113,113] ty #[v,xv]).run Tryz.prog w= .ok v' w'∧ItB w' base v' m∧But (fun k=>v.ownBlock=some k) w w'∧(v'.ownBlock=v.ownBlock∨v'.ownBlock=some w.heap.size):=by
 obtain⟨i0,a1,a4,a2,a5⟩:=info_parts gY;have hu:Tryz.prog.underlying 113=some (.slice 219):=by kernel_rfl
 obtain⟨ax,cx,rfl⟩:=aq hx
 cases ax with
 |none=>
  have hm:m.length=0:=by
   rcases Nat.eq_zero_or_pos m.length with h|h
   ·exact h
   ·obtain⟨g,hg,_⟩:=aD hx h
    cases hg
  have a3:m=[]:=List.length_eq_zero_iff.1 hm;subst a3
  have hc: ∃ao cap,v= .slice ao 0 cap:=by
   obtain⟨ao,cap,h⟩:=aq hown;exact⟨ao,cap,h⟩
  obtain⟨ao,cap,rfl⟩:=hc;refine⟨_,w,run_append_nothing w _ _ ty 219 i0 hu a1 ao 0 cap (by omega) _ (by rw[a2];exact Src.ofNil w hu cx),hown,But.refl _ _,Or.inl rfl⟩
 |some ad=>
  have a0: ∀j u,(bo m)[j]?=some u→w.cell? (ad.add j)=some u:=by
   intro j u hj;obtain⟨g,cap',hv,hc,_⟩:=fy hx hj
   have h1:ad=⟨g,0,none⟩:=by
    have h2:=congrArg (fun v=>match v with|Value.slice a _ _=>a|_=>none) hv;exact Option.some.inj h2
   rw[h1];have e:(⟨g,0,none⟩:Addr).add j=⟨g,j,none⟩:=by simp[Addr.add];exact fun h=>h.symm
   rw[e];exact hc
  obtain⟨v',w',hr,h2,h3,_,h5⟩:=run_append_own_at (P:=Tryz.prog) w base _ ty 219 i0 _ 5 48 hu a1 a4 a2 a5 rfl (by omega) v 0 (bo []) hown ad m.length cx (bo m) (rm m) a0 (ru m) (by unfold maxLen;omega) (by omega) hbase;refine⟨v',w',hr,?_,aX h3,h5⟩;unfold ItB;rw[Nat.zero_add]at h2;exact h2
theorem iH {w:World} {ops:Array Oper} {rest:List Oper} {o:Oper} {a:Act} {Q:Exit→Act→World→Prop} (hgd:o.guard=none) (s x:Operand)
  (ho:o.op= .call {callee:= .builtin .append,args:=#[s,x],argTypes:=#[113,113]}) (base bx:Nat) (v xv:Value) (m:List XIt) (hs:a.eval s=v) (hx:a.eval x=xv) (hown:ItB w base v []) (hxo:ItB w bx xv m) (hlen:m.length≤100000) (hbase:base≤w.heap.size)
  (h: ∀ao cap w',ItB w' base (.slice ao m.length cap) m→But (fun k=>v.ownBlock=some k) w w'→wpList Tryz.prog ops Q rest (a.put o.dst (.slice ao m.length cap)) w'):wpList Tryz.prog ops Q (o::rest) a w:=by
 refine wpList_plain hgd fun K hK=> ?_
 obtain⟨v',w',hr,h1,h2,h3⟩:=pL w o.type base bx v xv m hown hxo hlen hbase;obtain⟨ao,cap,rfl⟩:=aq h1;unfold Oper.wp execOp;simp only[ho,resolve,invoke,builtin,Sem.run_bind,Sem.run_pure,Result.andThen_ok,List.map_toArray,List.map_cons,List.map_nil,hs,hx,hr];exact hK _ _ (h ao cap w' h1 h2)
theorem ItB.empty (w:World):ItB (w.alloc (.cells #[] 219)) w.heap.size (.slice (some ⟨w.heap.size,0,none⟩) 0 0) []:=
 ⟨rfl,Or.inr ⟨w.heap.size,0,#[],rfl,Nat.le_refl _,heap_alloc_new w _,by simp,by unfold maxLen;omega,rfl,rfl⟩⟩
theorem fw (b base bx:Nat) (s:ByteArray) (i:Nat) (bad mn:Bool) (v0 v1 vi:Value) (a2:Option Addr) (cap2:Nat) (bs:List ba) (X:ba) (al ai:Option Addr) (capl capi:Nat) (w:World) (hnb:bs.length≤7) (hni:X.items.length≤100) (hs:s.size≤2000)
  (hR:XrB w b s i bad v0 v1 ⟨.slice a2 bs.length cap2,.int .u8 X.cls.toNat,.int .i64 X.meth,.int .u8 X.ans.toNat,.slice al X.locals.length capl,vi,mn⟩) (hT:TbV w base (.slice a2 bs.length cap2) bs) (hl:BtB w base (.slice al X.locals.length capl) X.locals) (hi:ItB w bx (.slice ai X.items.length capi) X.items) (hb:b<base) (hbx:b<bx) (hbase:base≤w.heap.size):
  Calls Tryz.prog 102 #[.pointer (some ⟨b,0,none⟩),.slice ai X.items.length capi] w fun en w'=>en= .returned (.tuple #[])∧But (fun k=>k=b∨(Value.slice a2 bs.length cap2).ownBlock=some k) w w'∧
   ∃a2' cap2' vi',XrB w' b s (tkP s 46 i bad).1 (tkP s 46 i bad).2 v0 v1 ⟨.slice a2' (bs++ [X]).length cap2',.int .u8 X.cls.toNat,.int .i64 X.meth,.int .u8 X.ans.toNat,.slice al X.locals.length capl,vi',mn⟩∧TbV w' base (.slice a2' (bs++ [X]).length cap2') (bs++ [X]):=by
 obtain⟨i0,g5,h2,h3,h5⟩:=info_parts u7;obtain⟨l,hO,hm,hf⟩:=hT;have e9:l.length=bs.length:=by rw[←hm];simp
 have f7:=hid e9;rw[←e9]at hR hO hnb⊢;clear e9;have h9:=hR.lt;have b6:=dl b s i bad _ _ _ _ 46 (by decide) hs hR;obtain⟨TK,f6⟩: ∃TK,tkP s 46 i bad=TK:=⟨_,rfl⟩;rw[f6]at b6⊢;clear f6;obtain⟨j1,g0⟩:=TK;dsimp only at b6⊢;have f0:=hid b6;clear b6
 go_in
 go_wp2_with fail;refine f0.out.mono ?_;rintro en w1 ⟨rfl,d6,e1⟩;have f3:ItB w1 bx (.slice ai X.items.length capi) X.items:=ah hi d6 (fun g hg h=>by have:=aj hi g hg;omega);have h4:=d6.size;have hE:=ItB.empty w1;have e8:=e1.but (But.alloc (fun _=>False) w1 (.cells #[] 219)) (fun h=>h);go_wp2_with (at_builtin;refine iH rfl _ _ rfl w1.heap.size bx _ _ X.items rfl rfl hE (ah f3 (But.alloc (fun _=>False) _ _) (fun _ _ h=>h)) (by omega) (by simp) ?_);intro ao cap w2 e0 f1;have a8:But (fun _=>False) w1 w2:=(But.alloc (fun _=>False) _ _).next f1 (fun k hk h=>by simp[Value.ownBlock]at h;omega);have b4:=e1.but a8 (fun h=>h)
 have c7:=b4.d4;have g7:=b4.fz 7;have h6:=a8.size;clear f3 hE e8;go_wp2_with fail;have b5:=b4.setI (.slice ao X.items.length cap);have b0:But (· =b) w2 (w2.setCell ⟨b,7,none⟩ (.slice ao X.items.length cap)):=But.setB _ _ _ _;have b3:ItB (w2.setCell ⟨b,7,none⟩ (.slice ao X.items.length cap)) w1.heap.size (.slice ao X.items.length cap) X.items:=ah e0 b0 (fun g hg h=>by have:=aj e0 g hg;omega);have a6:But (· =b) w (w2.setCell ⟨b,7,none⟩ (.slice ao X.items.length cap)):=(d6.next a8 (fun _ _ h=>h.elim)).trans b0;revert b5 b3 a6;generalize (w2.setCell ⟨b,7,none⟩ (.slice ao X.items.length cap))=W;intro a4 b3 a6
 have g6:ItB W base (.slice ao X.items.length cap) X.items:=World.ownsRow.mono b3 (by omega);clear b0 b3 e0 f1 c7 g7 b4 e1 hi;dsimp only at a4;have f5:=ah hO a6 (fun g hg h=>by have:=aj hO g hg;omega);have i2:=aS hO;have e2:=a4.c2;have e3:=a4.d0;have e4:=a4.d1;have e5:=a4.d2;have e6:=a4.d3;have e7:=a4.d4;have g2:=a4.fz 2;have bltW:=a4.lt;dsimp only at e2 e3 e4 e5 e6 e7;have ab:(Value.slice a2 l.length cap2).ownBlock≠some b:=fun h=>by have:=aj hO _ h;omega
 have g4:But (fun k=>(Value.slice a2 l.length cap2).ownBlock=some k) W W.drew:=But.drew _ _;have h8:base≤W.heap.size:=by have:=a6.size;omega
 have HM:=hid hm;clear hm f0;refine aB (But (fun k=>(Value.slice a2 l.length cap2).ownBlock=some k) W) 12 (by kernel_rfl) ?_
 iterate 10 (refine aG (v:=?_) rfl (by kernel_rfl) (fun _ _ _ h=>h) rfl g4 ?_ ?_;rotate_left;(focus (intro wS h;have q0:=((h.cell (p:=⟨b,2,none⟩) bltW ab).trans e2);have q1:=((h.cell (p:=⟨b,3,none⟩) bltW ab).trans e3);have q2:=((h.cell (p:=⟨b,4,none⟩) bltW ab).trans e4);have q3:=((h.cell (p:=⟨b,5,none⟩) bltW ab).trans e5);have q4:=((h.cell (p:=⟨b,6,none⟩) bltW ab).trans e6);have q5:=((h.cell (p:=⟨b,7,none⟩) bltW ab).trans e7);clear h;go_simp;try rfl));dsimp only[Act.put];try simp only[aK])
 refine ag rfl (by kernel_rfl) ?_;intro KS hKS;go_simp;refine hKS.out _ _ (fun _=>(But.alloc _ _ _).trans (But.drew _ _)) ?_;clear hKS KS;refine ag rfl (by kernel_rfl) ?_;intro KS hKS
 refine step_append_lies _ (by rfl) _ _ _ (by rfl) base 115 i0 _ 5 72 (by kernel_rfl) g5 h2 h3 h5 rfl (by omega) _ l.length (jv l) (by rfl) ((f5.alloc _).drew)
    ⟨W.heap.size,0,none⟩ 1 1 [.int .u8 X.cls.toNat,.int .i64 X.meth,.int .u8 X.ans.toNat,.slice al X.locals.length capl,.slice ao X.items.length cap] (by rfl) (by rfl) (World.news_of_block (cs:=#[.int .u8 X.cls.toNat,.int .i64 X.meth,.int .u8 X.ans.toNat,.slice al X.locals.length capl,.slice ao X.items.length cap]) (t:=115) (fr:=(0,0)) (heap_alloc_new W _)) (by simp[Value.oneCell'])
    (by omega) (by unfold maxLen;omega) (by omega) (by simp;omega) (W.heap.size+1) (by simp) ?_
 intro gg a0 w4 a3 a7 h7 h0;have b1:But (fun k=>(Value.slice a2 l.length cap2).ownBlock=some k) W w4:=((But.alloc _ _ _).trans (But.drew _ _)).trans (aX a7);refine hKS.out _ _ (fun _=>b1) ?_;clear hKS KS;have y0:=(b1.cell (p:=⟨b,2,none⟩) bltW ab).trans e2;have y1:=(b1.frozen (p:=⟨b,2,none⟩) bltW ab).trans g2;refine ag rfl (by kernel_rfl) ?_;intro KS hKS;go_simp;refine hKS.out _ _ nofun ?_;clear hKS KS;refine ag rfl (by kernel_rfl) ?_;intro KS hKS;go_simp;refine hKS.out _ _ nofun ?_;clear hKS KS;refine ag rfl (by kernel_rfl) ?_;intro KS hKS;go_simp;refine hKS.out _ _ nofun ?_;clear hKS KS;refine ag rfl (by kernel_rfl) ?_
 intro KS hKS;go_simp;refine hKS.out _ _ nofun ?_;clear hKS KS;refine aF rfl (by kernel_rfl) ?_;have i1:=aj a3 gg rfl;have b5:=(a4.but b1 ab).set2 (.slice (some ⟨gg,0,none⟩) (l.length+1) a0);have a1:But (fun k=>k=b∨(Value.slice a2 l.length cap2).ownBlock=some k) W (w4.setCell ⟨b,2,none⟩ (.slice (some ⟨gg,0,none⟩) (l.length+1) a0)):=(b1.mono (fun _ _ h=>Or.inr h)).next (But.setB _ _ _ _) (fun _ _ h=>Or.inl h);have f4:=ah a3 (But.setB w4 b 2 (.slice (some ⟨gg,0,none⟩) (l.length+1) a0)) (fun g hg h=>by have:=aj a3 g hg;omega)
 have f2: ∀x∈l++ [(X,.slice al X.locals.length capl,.slice ao X.items.length cap)],BtB (w4.setCell ⟨b,2,none⟩ (.slice (some ⟨gg,0,none⟩) (l.length+1) a0)) base x.2.1 x.1.locals∧ItB (w4.setCell ⟨b,2,none⟩ (.slice (some ⟨gg,0,none⟩) (l.length+1) a0)) base x.2.2 x.1.items:=by
  have a5: ∀g cur e,W.heap[g]?=some (.cells cur e)→e≠115→base≤g→ ¬(g=b∨(Value.slice a2 l.length cap2).ownBlock=some g):=by
   intro g cur e hh he hg h;rcases h with h|h
   ·omega
   ·exact eb f5 hh he h
  intro x hx;rcases List.mem_append.1 hx with hx|hx
  ·have h1:=hf x hx;exact⟨aU (BtB.but h1.1 a6 (fun g hg h=>by have:=aj h1.1 g hg;omega)) a1 (fun g cur hh hg=>a5 g cur _ hh (by decide) hg),aU (ah h1.2 a6 (fun g hg h=>by have:=aj h1.2 g hg;omega)) a1 (fun g cur hh hg=>a5 g cur _ hh (by decide) hg)⟩
  ·simp at hx;subst hx;exact⟨aU (hl.but a6 (fun g hg h=>by have:=aj hl g hg;omega)) a1 (fun g cur hh hg=>a5 g cur _ hh (by decide) hg),aU g6 a1 (fun g cur hh hg=>a5 g cur _ hh (by decide) hg)⟩
 have g3:TbV (w4.setCell ⟨b,2,none⟩ (.slice (some ⟨gg,0,none⟩) (l.length+1) a0)) base (.slice (some ⟨gg,0,none⟩) (l.length+1) a0) (bs++ [X]):=
  ⟨l++ [(X,.slice al X.locals.length capl,.slice ao X.items.length cap)],by rw[pE,List.length_append];exact f4,by rw[List.map_append,HM.out];rfl,f2⟩
 have g1:But (fun k=>k=b∨(Value.slice a2 l.length cap2).ownBlock=some k) w (w4.setCell ⟨b,2,none⟩ (.slice (some ⟨gg,0,none⟩) (l.length+1) a0)):=(a6.mono (fun _ _ h=>Or.inl h)).trans a1;clear f2 a1 f4;generalize (w4.setCell ⟨b,2,none⟩ (.slice (some ⟨gg,0,none⟩) (l.length+1) a0))=W3 at*;clear y0 y1 e2 e3 e4 e5 e6 e7 g2 b1 a7;have b2:(bs++ [X]).length=l.length+1:=by rw[List.length_append,←f7.out];rfl
 have f8:=hid b2;clear b2;dsimp only at b5;go_wp2_with fail;go_end0;refine⟨rfl,g1,some ⟨gg,0,none⟩,a0,.slice ao X.items.length cap,?_⟩;rw[f8.out];exact⟨b5,g3⟩
def fh (s:ByteArray) (cs:List Cls) (ns nl i:Nat) (bad:Bool):Except Nat (List Ins×Nat):=if bad=true then .error i else cD s cs ns nl 100 [] i
def iI (s:ByteArray) (cs:List Cls) (ns nl:Nat) (R:Except Nat (List Ins×Nat)) (mm:Nat) (items:List XIt) (j:Nat) (bad:Bool):Prop:=
 (bad=false∧ ∃is,items=is.map bj∧is≠ []∧is.length+mm=100∧cD s cs ns nl mm is j=R)∨(bad=true∧R= .error j)
section
variable {s:ByteArray} {cs:List Cls} {ns nl:Nat} {R:Except Nat (List Ins×Nat)}
theorem mQ {k:Nat} {is:List Ins} {j:Nat} (h: ¬((pk s j).toNat=46∧is≠ [])):cD s cs ns nl (k+1) is j=match j6 s cs ns nl j with
  | .error j=> .error j
  | .ok (x,j)=>cD s cs ns nl k (is++ [x]) j:=by
 rw[cD,if_neg h]
 cases j6 s cs ns nl j<;>rfl
theorem iI.start {i:Nat} {bad:Bool} (hR:fh s cs ns nl i bad=R) {x:XIt} {j:Nat} {bad':Bool} (h:fO s cs ns nl i bad x j bad'):iI s cs ns nl R 99 [x] j bad':=by
 unfold fh at hR;unfold fO nN at h
 cases bad with
 |true=>
  simp only[if_true]at h hR;rcases h with⟨_,y,h,_⟩ | ⟨h1,h2⟩
  ·cases h
  ·cases h2
   exact Or.inr ⟨h1,hR.symm⟩
 |false=>
  simp only[Bool.false_eq_true,if_false]at h hR;rw[mQ (by simp)]at hR;rcases h with⟨h1,y,h2,h3⟩ | ⟨h1,h2⟩
  ·rw[h2]at hR;exact Or.inl ⟨h1,[y],by simp[h3],by simp,by simp,hR⟩
  ·rw[h2]at hR;exact Or.inr ⟨h1,hR.symm⟩
theorem iI.next {mm:Nat} {items:List XIt} {j:Nat} (h:iI s cs ns nl R mm items j false) (hl:items.length<100) (hp:pk s j≠46) {x:XIt} {j':Nat} {bad':Bool} (hi:fO s cs ns nl j false x j' bad'): ∃m',m'<mm∧iI s cs ns nl R m' (items++ [x]) j' bad':=by
 rcases h with⟨_,is,h1,h2,h3,h4⟩ | ⟨h,_⟩
 ·have a0:is.length<100:=by rw[h1,List.length_map]at hl;exact hl
  obtain⟨f,rfl⟩: ∃f,mm=f+1:=⟨mm-1,by omega⟩;rw[mQ (fun h=>hp ((u8n (by decide)).1 h.1))]at h4;unfold fO nN at hi;simp only[Bool.false_eq_true,if_false]at hi;rcases hi with⟨e1,y,e2,e3⟩ | ⟨e1,e2⟩
  ·rw[e2]at h4;exact⟨f,by omega,Or.inl ⟨e1,is++ [y],by rw[h1,List.map_append,e3];rfl,by simp,by simp;omega,h4⟩⟩
  ·rw[e2]at h4;exact⟨0,by omega,Or.inr ⟨e1,h4.symm⟩⟩
 ·cases h
theorem iI.fin {mm:Nat} {items:List XIt} {j:Nat} {bad:Bool} (h:iI s cs ns nl R mm items j bad) (hx:bad=true∨ ¬items.length<100∨pk s j=46):
  ((tkP s 46 j bad).2=false∧ ∃is,R= .ok (is,(tkP s 46 j bad).1)∧items=is.map bj)∨((tkP s 46 j bad).2=true∧R= .error (tkP s 46 j bad).1):=by
 rcases h with⟨rfl,is,h1,h2,h3,h4⟩ | ⟨rfl,h2⟩
 ·by_cases hp:pk s j=46
  ·left
   rw[jS hp];refine⟨rfl,is,?_,h1⟩;rw[←h4]
   cases mm<;>simp[cD,hp,h2]
  ·right
   rw[dQ (Or.inr hp)];refine⟨rfl,?_⟩
   have hm:mm=0:=by
    rcases hx with h|h|h
    ·cases h
    ·rw[h1,List.length_map]at h;omega
    ·exact absurd h hp
   subst hm;rw[←h4];have: ¬((pk s j).toNat=46∧is≠ []):=fun h=>hp ((u8n (by decide)).1 h.1)
   simp only[cD,if_neg this]
 ·right
  rw[dQ (Or.inl rfl)];exact⟨rfl,h2⟩
end
def Bo (s:ByteArray) (SC:List Cls) (a0 a1:Option Addr) (ng nl cap0 cap1:Nat) (v2:RdV) (b base:Nat) (R:Except Nat (List Ins×Nat)) (en:Ending) (w':World):Prop:=
 ∃ao cap items j bad' mm,en= .returned (.slice ao (List.length items) cap)∧XrB w' b s j bad' (.slice a0 SC.length cap0) (.slice a1 ng cap1) v2∧ItB w' base (.slice ao items.length cap) items∧items.length≤100∧
   iI s SC ng nl R mm items j bad'∧(bad'=true∨ ¬items.length<100∨pk s j=46)
theorem ly (b base:Nat) (s:ByteArray) (i:Nat) (bad:Bool) (SC:List Cls) (a0 a1 al:Option Addr) (ng nl cap0 cap1 capl:Nat) (v2:RdV) (w:World)
  (hG:bad=true∨(WfC SC∧TcV w base (.slice a0 SC.length cap0) (SC.map toX))) (hnc:SC.length≤4) (hng:ng≤3) (hnl:nl≤10) (hs:s.size≤2000)
  (hR:XrB w b s i bad (.slice a0 SC.length cap0) (.slice a1 ng cap1) v2) (hv:v2.hl= .slice al nl capl) (hb:b<base):
  Calls Tryz.prog 101 #[.pointer (some ⟨b,0,none⟩)] w fun en w'=>But (· =b) w w'∧
   Bo s SC a0 a1 ng nl cap0 cap1 v2 b w.heap.size (fh s SC ng nl i bad) en w':=by
 obtain⟨R,e8⟩: ∃R,fh s SC ng nl i bad=R:=⟨_,rfl⟩;rw[e8];have f3:=hid e8;clear e8;obtain⟨i0,h1,h6,h7,h8⟩:=info_parts gY;have i3:=hR.lt;have HG:=hid hG;have a7:=hid (fun(w':World) (i':Nat) (bad':Bool) (h:But (· =b) w w') (hg:bad'=true∨(WfC SC∧TcV w base (.slice a0 SC.length cap0) (SC.map toX))) (hr:XrB w' b s i' bad' (.slice a0 SC.length cap0) (.slice a1 ng cap1) v2)=>s7 b base s i' SC a0 a1 al ng nl cap0 cap1 capl v2 w' bad' (hg.imp id (fun q=>⟨q.1,q.2.but h (fun g e cur _ _ hg he=>by omega)⟩)) hnc hng hnl hs hr hv hb);clear hG
 go_in
 go_wp2_with fail;refine(a7.out w i bad (But.refl _ _) HG.out hR).mono ?_;rintro en w1 ⟨f4,x,j1,a8,rfl,f7,e5⟩
 have g3:Hid (a8=true∨(WfC SC∧TcV w base (.slice a0 SC.length cap0) (SC.map toX))):=by
  refine hid ?_;rcases HG.out with h|h
  ·left
   rcases e5 with⟨_,y,h2,_⟩ | ⟨h2,_⟩
   ·rw[h]at h2;simp[nN]at h2
   ·exact h2
  ·exact Or.inr h
 have g2:=hid (iI.start f3.out e5);have e2:=f4;clear e5 f3 HG;unfold itV;go_wp2_with fail;have a5:But (fun _=>False) w1 ((w1.alloc (.cells #[.int .i64 x.place,.int .u8 x.op.toNat,.int .u8 x.cls.toNat,.int .i64 x.num,.slice x.pa x.pn x.pc] 219)).alloc (.cells #[.int .i64 x.place,.int .u8 x.op.toNat,.int .u8 x.cls.toNat,.int .i64 x.num,.slice x.pa x.pn x.pc] 219)):=(But.alloc _ _ _).trans (But.alloc _ _ _)
 have e6:ItB ((w1.alloc (.cells #[.int .i64 x.place,.int .u8 x.op.toNat,.int .u8 x.cls.toNat,.int .i64 x.num,.slice x.pa x.pn x.pc] 219)).alloc (.cells #[.int .i64 x.place,.int .u8 x.op.toNat,.int .u8 x.cls.toNat,.int .i64 x.num,.slice x.pa x.pn x.pc] 219)) w1.heap.size (.slice (some ⟨w1.heap.size+1,0,none⟩) 1 1) [x]:=
  ⟨rfl,Or.inr ⟨w1.heap.size+1,1,_,rfl,by omega,CB (by simp) _,by simp,by unfold maxLen;omega,rfl,rfl⟩⟩
 revert a5 e6;generalize ((w1.alloc (.cells #[.int .i64 x.place,.int .u8 x.op.toNat,.int .u8 x.cls.toNat,.int .i64 x.num,.slice x.pa x.pn x.pc] 219)).alloc (.cells #[.int .i64 x.place,.int .u8 x.op.toNat,.int .u8 x.cls.toNat,.int .i64 x.num,.slice x.pa x.pn x.pc] 219))=w2;intro a5 e6;have g6:=f7.but a5 (fun h=>h);have e3:But (· =b) w w2:=e2.next a5 (fun _ _ h=>h.elim);have f0:=f4.size;have h9:=a5.size;clear f7 a5
 go_loopg [4] 99 (fun mm vs wr=> ∃(ao:Option Addr) (cap j:Nat) (bad':Bool) (items:List XIt),vs= .slice ao items.length cap∧items.length≤100∧But (· =b) w wr∧XrB wr b s j bad' (.slice a0 SC.length cap0) (.slice a1 ng cap1) v2∧ItB wr w.heap.size (.slice ao items.length cap) items∧Hid (bad'=true∨(WfC SC∧TcV w base (.slice a0 SC.length cap0) (SC.map toX)))∧Hid (iI s SC ng nl R mm items j bad'))
 case atStart=>exact⟨_,1,j1,a8,[x],rfl,by simp,e3,g6,World.ownsRow.mono e6 f0,g3,g2⟩
 case round=>
  obtain⟨ao,cap,j,bad',items,rfl,g0,b1,a6,e0,f1,d6⟩:=hrel;have h5:=b1.size;have i2:=a6.lt
  by_cases hlt:items.length<100
  ·have h3:(items.length:Int)<100:=by omega
   by_cases hgo:bad'=false∧pk s j≠46
   ·obtain⟨rfl,e9⟩:=hgo;have b5:(!false&& !decide (pk s j=46))=true:=by simp[e9]
    have a2:=cA b s j false _ _ _ wr 46 a6;rw[b5]at a2;have e1:=hid a2;have f2:=hid (fun x j' bad'=>d6.out.next hlt e9 (x:=x) (j':=j') (bad':=bad'));clear b5 a2 e9 d6;go_wp2_with fail;refine e1.out.mono ?_;rintro en w3 ⟨rfl,k,rfl⟩;go_wp2_with fail;refine(a7.out (wr.drewN k) j false (b1.trans (But.drewN _ _ _)) f1.out (a6.drewN k)).mono ?_;rintro en w4 ⟨g5,y,j4,a3,rfl,g7,f6⟩;obtain⟨m',i4,f5⟩:=f2.out y j4 a3 f6;have g1:=hid f5
    have g4:Hid (a3=true∨(WfC SC∧TcV w base (.slice a0 SC.length cap0) (SC.map toX))):=by
     refine hid (Or.inr ?_);rcases f1.out with h|h
     ·cases h
     ·exact h
    have a4:But (· =b) wr w4:=(But.drewN _ _ _).trans g5;have b2:But (· =b) w w4:=b1.trans a4;have b4:w4.ownsRow w.heap.size 219 5 (.slice ao items.length cap) items.length (bo items):=ah e0 a4 (fun g hg h=>by have:=aj e0 g hg;omega);have b3:=aj b4;have i5:=b2.size;have i6:=a4.size;clear f6 f5 f2;unfold itV;go_wp2_with (at_builtin;refine wpList_append_lies _ rfl _ _ _ rfl w.heap.size 219 i0 _ 5 48 (by kernel_rfl) h1 h6 h7 h8 rfl (by omega) _ items.length (bo items) rfl ((b4.alloc _).alloc _) ⟨w4.heap.size+1,0,none⟩ 1 1 [.int .i64 y.place,.int .u8 y.op.toNat,.int .u8 y.cls.toNat,.int .i64 y.num,.slice y.pa y.pn y.pc] rfl rfl (World.news_of_block (cs:=#[.int .i64 y.place,.int .u8 y.op.toNat,.int .u8 y.cls.toNat,.int .i64 y.num,.slice y.pa y.pn y.pc]) (t:=219) (fr:=(0,0)) (CB (by simp) _)) (by simp[Value.oneCell']) (by omega) (by unfold maxLen;omega) (by omega) (by simp;omega) (w4.heap.size+2) (by simp) ?_)
    intro gg b0 w5 c7 b6 i1 h4;have f8:But (fun k'=>(Value.slice ao items.length cap).ownBlock=some k') w4 w5:=((But.alloc _ _ _).trans (But.alloc _ _ _)).trans (aX b6);have e4:But (· =b) w w5:=b2.next f8 (fun k' hk' h=>absurd (b3 k' h) (by omega));have h0:=g7.but f8 (fun h=>by have:=b3 _ h;omega)
    have e7:ItB w5 w.heap.size (.slice (some ⟨gg,0,none⟩) (items++ [y]).length b0) (items++ [y]):=by
     unfold ItB;rw[List.length_append,et];exact c7
    go_wp2_with fail
    go_roundg m'
    case measure=>omega
    case rel=>exact⟨_,b0,j4,a3,items++ [y],by simp,by simp;omega,e4,h0,e7,g4,g1⟩
   ·have b5:(!bad'&& !decide (pk s j=46))=false:=by
     cases bad' with
     |true=>rfl
     |false=>
      by_cases h:pk s j=46
      ·simp[h]
      ·exact absurd ⟨rfl,h⟩ hgo
    have hx:bad'=true∨ ¬items.length<100∨pk s j=46:=by
     cases bad' with
     |true=>exact Or.inl rfl
     |false=>
      right;right
      by_cases h:pk s j=46
      ·exact h
      ·exact absurd ⟨rfl,h⟩ hgo
    have HX:=hid hx;have a2:=cA b s j bad' _ _ _ wr 46 a6;rw[b5]at a2;have e1:=hid a2;clear b5 a2 hx hgo;go_wp2_with fail;refine e1.out.mono ?_;rintro en w3 ⟨rfl,k,rfl⟩;go_wp2_with fail;exact cB (.slice ao items.length cap) Tryz.results101 rfl rfl ⟨b1.trans (But.drewN _ _ _),⟨ao,cap,items,j,bad',_,rfl,a6.drewN k,ah e0 (But.drewN (fun _=>False) _ _) (fun _ _ h=>h),g0,d6.out,HX.out⟩⟩
  ·have h3: ¬(items.length:Int)<100:=by omega
   go_wp2_with fail;exact cB (.slice ao items.length cap) Tryz.results101 rfl rfl ⟨b1,⟨ao,cap,items,j,bad',_,rfl,a6,e0,g0,d6.out,Or.inr (Or.inl hlt)⟩⟩
theorem rv (s:ByteArray) (w:World):
  Calls Tryz.prog 97 #[.string s] w fun en w'=>en= .returned (.pointer (some ⟨w.heap.size,0,none⟩))∧But (fun _=>False) w w'∧w.heap.size<w'.heap.size∧XrB w' w.heap.size s 0 false (.slice none 0 0) (.slice none 0 0) ⟨.slice none 0 0,.int .u8 0,.int .i64 0,.int .u8 0,.slice none 0 0,.slice none 0 0,false⟩:=by
 go_in
 go_wp2
 go_ret;exact⟨rfl,But.alloc _ _ _,by simp,heap_alloc_new _ _⟩
def A4 (s:ByteArray) (nc:Nat) (gs:List Sig) (BS:List Bod) (i:Nat) (a0:Option Addr) (cap0:Nat) (v1:Value) (a2:Option Addr) (n cap2 b base:Nat) (w':World):Prop:=
 ∃(c:UInt8) (m:Nat) (r:UInt8) (ao:Option Addr) (cap:Nat) (l:List UInt8) (j:Nat) (bad':Bool),XrB w' b s j bad' (.slice a0 nc cap0) v1 ⟨.slice a2 n cap2,.int .u8 (UInt8.toNat c),.int .i64 m,.int .u8 (UInt8.toNat r),.slice ao (List.length l) cap,.slice none 0 0,false⟩∧BtB w' base (.slice ao l.length cap) l∧l.length≤5∧
   ((bad'=false∧ ∃x t,ew s nc gs BS i= .ok ((x,m,t),j)∧c=UInt8.ofNat (65+x)∧x<nc∧m<gs.length∧r=(cC gs m).ret∧l=c::(cC gs m).arg::t)∨(bad'=true∧ew s nc gs BS i= .error j))
def A5 (s:ByteArray) (nc i:Nat) (bad:Bool) (a0:Option Addr) (cap0:Nat) (v1:Value) (a2:Option Addr) (n cap2 b base:Nat) (w':World):Prop:=
 ∃(ao:Option Addr) (cap:Nat) (l:List UInt8) (j:Nat) (bad':Bool),XrB w' b s j bad' (.slice a0 nc cap0) v1 ⟨.slice a2 n cap2,.int .u8 45,.int .i64 0,.int .u8 105,.slice ao (List.length l) cap,.slice none 0 0,true⟩∧BtB w' base (.slice ao l.length cap) l∧l.length≤3∧
   ((bad'=false∧dU s nc 58 3 i bad= .ok (l,j))∨(bad'=true∧dU s nc 58 3 i bad= .error j))
theorem ja (b:Nat) (s:ByteArray) (i:Nat) (bad:Bool) (v0 v1:Value) (v2:RdV) (w:World) (hR:XrB w b s i bad v0 v1 v2) (hx:v2.main=true∨bad=true):
  Calls Tryz.prog 100 #[.pointer (some ⟨b,0,none⟩)] w fun e w'=>e= .returned (.bool false)∧ ∃m,w'=w.drewN m:=by
 have h4:=hR.c4;have h5:=hR.d5
 cases hm:v2.main with
 |true=>
  rw[hm]at h5
  go_in
  go_wp2_with fail;exact cB (.bool false) Tryz.results100 rfl rfl ⟨rfl,0,rfl⟩
 |false=>
  rw[hm]at h5;have hb:bad=true:=by rcases hx with h|h;(rw[hm]at h;cases h);exact h
  subst hb
  go_in
  go_wp2_with fail;exact cB (.bool false) Tryz.results100 rfl rfl ⟨rfl,0,rfl⟩
theorem jb (b base:Nat) (s:ByteArray) (i:Nat) (a0 a2:Option Addr) (nc cap0 n cap2:Nat) (v1 x0 x1 x2 x3 x4:Value) (w:World) (gs:List Sig) (BS:List Bod) (xs:List ba) (hxs:xs.map iL=(BS.map (aW gs)).map iL) (hnc:nc≤4) (hgs:gs.length≤3) (hBS:BS.length≤6) (hsb: ∀b∈BS,(b.cls= -1)∨eD b) (hs:s.size≤2000)
  (hR:XrB w b s i false (.slice a0 nc cap0) v1 ⟨.slice a2 n cap2,x0,x1,x2,x3,x4,false⟩) (hM:TmV w base v1 gs) (hBd:TbV w base (.slice a2 n cap2) xs) (hb:b<base) (hn:n<6) (hp:pk s i≠59):
  Calls Tryz.prog 100 #[.pointer (some ⟨b,0,none⟩)] w fun en w'=>But (· =b) w w'∧en= .returned (.bool true)∧A4 s nc gs BS i a0 cap0 v1 a2 n cap2 b w.heap.size w':=by
 have h2:=hR.c2;have h4:=hR.c4;have h5:=hR.d5;have b5:(n:Int)<6:=by omega
 have b4:=hR.lt;have a3:=cA b s i false _ _ _ w 59 hR;rw[show(!false&& !decide (pk s i=59))=true from by simp[hp]]at a3;have a4:=hid a3;have a5:=hid (fun k=>u4 b base s i a0 nc cap0 v1 ⟨.slice a2 n cap2,x0,x1,x2,x3,x4,false⟩ (w.drewN k) gs BS xs hxs hnc hgs hBS hsb hs (hR.drewN k) (hM.but (But.drewN (fun _=>False) _ _) (fun _ _ _ _ _ _ h=>h)) (hBd.but (But.drewN (fun _=>False) _ _) (fun _ _ _ _ _ _ h=>h)) hb);clear a3 hp hM hBd hsb hBS hn hxs;dsimp only at h2 h5
 go_in
 go_wp2_with fail;refine a4.out.mono ?_;rintro en w1 ⟨rfl,k,rfl⟩;go_wp2_with fail;refine(a5.out k).mono ?_;rintro en w2 ⟨b1,c,m,r,ao,cap,l,j,bad',rfl,a1,a7,b3,a8⟩;have b0:=hid a8;have e0:=a1.d0;have e1:=a1.d1;have e2:=a1.d2;have e3:=a1.d3;have e4:=a1.d4;have g0:=a1.fz 3;have g1:=a1.fz 4;have g2:=a1.fz 5;have g3:=a1.fz 6;have g4:=a1.fz 7;clear a8 h2 h4 h5 a4 a5;unfold hdV;go_wp2_with fail;have b2:=a1.setB (.int .u8 c.toNat) (.int .i64 m) (.int .u8 r.toNat) (.slice ao l.length cap) (.slice none 0 0)
 have a6:But (· =b) w2 (((((w2.setCell ⟨b,3,none⟩ (.int .u8 c.toNat)).setCell ⟨b,4,none⟩ (.int .i64 m)).setCell ⟨b,5,none⟩ (.int .u8 r.toNat)).setCell ⟨b,6,none⟩ (.slice ao l.length cap)).setCell ⟨b,7,none⟩ (.slice none 0 0)):=
  ((((But.setB _ _ _ _).trans (But.setB _ _ _ _)).trans (But.setB _ _ _ _)).trans (But.setB _ _ _ _)).trans (But.setB _ _ _ _)
 exact cB (.bool true) Tryz.results100 rfl rfl ⟨((But.drewN _ _ _).trans b1).trans a6,rfl,c,m,r,ao,cap,l,j,bad',b2,BtB.but a7 a6 (fun g hg h=>by have:=aj a7 g hg;have:w.heap.size≤g:=this;omega),b3,b0.out⟩
theorem jc (b:Nat) (s:ByteArray) (i:Nat) (a0 a2:Option Addr) (nc cap0 n cap2:Nat) (v1 x0 x1 x2 x3 x4:Value) (w:World) (hnc:nc≤4) (hs:s.size≤2000)
  (hR:XrB w b s i false (.slice a0 nc cap0) v1 ⟨.slice a2 n cap2,x0,x1,x2,x3,x4,false⟩) (hx: ¬n<6∨pk s i=59):
  Calls Tryz.prog 100 #[.pointer (some ⟨b,0,none⟩)] w fun en w'=>But (· =b) w w'∧en= .returned (.bool true)∧A5 s nc (tkP s 59 i false).1 (tkP s 59 i false).2 a0 cap0 v1 a2 n cap2 b w.heap.size w':=by
 have h2:=hR.c2;have h4:=hR.c4;have h5:=hR.d5;have g5:=hR.fz 10;have f0:=hR.lt;dsimp only at h2 h5;obtain⟨TK,d6⟩: ∃TK,tkP s 59 i false=TK:=⟨_,rfl⟩;rw[d6];obtain⟨j1,a6⟩:=TK;dsimp only;have a5:=hid (fun(wx:World) (h:XrB wx b s i false (.slice a0 nc cap0) v1 ⟨.slice a2 n cap2,x0,x1,x2,x3,x4,true⟩)=>dl b s i false _ _ _ wx 59 (by decide) hs h);rw[d6]at a5;clear d6;have e7:Hid (∀(w1 w2 w3:World),But (· =b) w w1→w.heap.size≤w1.heap.size→True):=hid (fun _ _ _ _ _=>trivial)
 by_cases hnI:(n:Int)<6
 ·have hp:pk s i=59:=by
   rcases hx with h|h
   ·omega
   ·exact h
  have a4:=cA b s i false _ _ _ w 59 hR;rw[show(!false&& !decide (pk s i=59))=false from by simp[hp]]at a4;have e6:=hid a4;clear a4 hp hx
  go_in
  go_wp2_with fail;refine e6.out.mono ?_;rintro en w1 ⟨rfl,k,rfl⟩;have b2:=(hR.drewN k).setM true;have b0:But (· =b) w ((w.drewN k).setCell ⟨b,10,none⟩ (.bool true)):=(But.drewN _ _ _).trans (But.setB _ _ _ _);have e9:=b0.size;go_wp2_with fail;refine(a5.out _ b2).mono ?_;rintro en w2 ⟨rfl,a7,b6⟩;have e8:=a7.size;have a3:=b0.trans a7;clear h2 h4 h5 g5 e6 a5 b2;go_wp2_with fail;refine(jG b s j1 a6 a0 nc cap0 _ _ w2 hnc hs b6).mono ?_;rintro en w3 ⟨b5,ao,cap,l,j,bad',rfl,a1,b1,e5,b3⟩;have b4:=hid b3;have e0:=a1.d0;have e1:=a1.d1;have e2:=a1.d2;have e3:=a1.d3;have e4:=a1.d4;have g0:=a1.fz 3;have g1:=a1.fz 4
  have g2:=a1.fz 5;have g3:=a1.fz 6;have g4:=a1.fz 7;clear b3;unfold hdV;simp only[show(UInt8.toNat 45)=45 from rfl,show(UInt8.toNat 105)=105 from rfl];go_wp2_with fail;have c7:=a1.setB (.int .u8 45) (.int .i64 0) (.int .u8 105) (.slice ao l.length cap) (.slice none 0 0)
  have a8:But (· =b) w3 (((((w3.setCell ⟨b,3,none⟩ (.int .u8 45)).setCell ⟨b,4,none⟩ (.int .i64 0)).setCell ⟨b,5,none⟩ (.int .u8 105)).setCell ⟨b,6,none⟩ (.slice ao l.length cap)).setCell ⟨b,7,none⟩ (.slice none 0 0)):=
   ((((But.setB _ _ _ _).trans (But.setB _ _ _ _)).trans (But.setB _ _ _ _)).trans (But.setB _ _ _ _)).trans (But.setB _ _ _ _)
  exact cB (.bool true) Tryz.results100 rfl rfl ⟨(a3.trans b5).trans a8,rfl,ao,cap,l,j,bad',c7,BtB.but (World.ownsRow.mono b1 (by omega)) a8 (fun g hg h=>by have:=aj b1 g hg;omega),e5,b4.out⟩
 ·clear hx;have b2:=hR.setM true;have b0:But (· =b) w (w.setCell ⟨b,10,none⟩ (.bool true)):=But.setB _ _ _ _;have e9:=b0.size
  go_in
  go_wp2_with fail;refine(a5.out _ b2).mono ?_;rintro en w2 ⟨rfl,a7,b6⟩;have e8:=a7.size;have a3:=b0.trans a7;clear h2 h4 h5 g5 a5 b2;go_wp2_with fail;refine(jG b s j1 a6 a0 nc cap0 _ _ w2 hnc hs b6).mono ?_;rintro en w3 ⟨b5,ao,cap,l,j,bad',rfl,a1,b1,e5,b3⟩;have b4:=hid b3;have e0:=a1.d0;have e1:=a1.d1;have e2:=a1.d2;have e3:=a1.d3;have e4:=a1.d4;have g0:=a1.fz 3;have g1:=a1.fz 4;have g2:=a1.fz 5;have g3:=a1.fz 6;have g4:=a1.fz 7;clear b3;unfold hdV;simp only[show(UInt8.toNat 45)=45 from rfl,show(UInt8.toNat 105)=105 from rfl];go_wp2_with fail;have c7:=a1.setB (.int .u8 45) (.int .i64 0) (.int .u8 105) (.slice ao l.length cap) (.slice none 0 0)
  have a8:But (· =b) w3 (((((w3.setCell ⟨b,3,none⟩ (.int .u8 45)).setCell ⟨b,4,none⟩ (.int .i64 0)).setCell ⟨b,5,none⟩ (.int .u8 105)).setCell ⟨b,6,none⟩ (.slice ao l.length cap)).setCell ⟨b,7,none⟩ (.slice none 0 0)):=
   ((((But.setB _ _ _ _).trans (But.setB _ _ _ _)).trans (But.setB _ _ _ _)).trans (But.setB _ _ _ _)).trans (But.setB _ _ _ _)
  exact cB (.bool true) Tryz.results100 rfl rfl ⟨(a3.trans b5).trans a8,rfl,ao,cap,l,j,bad',c7,BtB.but (World.ownsRow.mono b1 (by omega)) a8 (fun g hg h=>by have:=aj b1 g hg;omega),e5,b4.out⟩
def As (s:ByteArray) (i:Nat) (bad:Bool) (b:Nat) (w:World) (en:Ending) (w':World):Prop:=
 ((bad||decide (i<s.size))=true∧ ∃g,w.heap.size≤g∧en= .returned (.tuple #[.pointer (some ⟨g,0,none⟩),.int .i64 i])∧w'.heap[g]?=some (.cells #[.slice none 0 0,.slice none 0 0,.slice none 0 0] 109))∨
    ((bad||decide (i<s.size))=false∧en= .returned (.tuple #[.pointer (some ⟨b,0,none⟩),.int .i64 (-1)]))
theorem lz (b:Nat) (s:ByteArray) (i:Nat) (bad:Bool) (v0 v1:Value) (v2:RdV) (w:World) (hR:XrB w b s i bad v0 v1 v2):
  Calls Tryz.prog 103 #[.pointer (some ⟨b,0,none⟩)] w fun en w'=>But (fun _=>False) w w'∧As s i bad b w en w':=by
 have p3:=hR.c3;have p4:=hR.c4;have p5:=hR.c5;have a7:=hR.lt
 cases bad with
 |true=>
   go_in
   go_wp2
   go_quiet (fail)
   go_wp2_with fail;have a3:=hR.drewN nq;have a2:But (fun _=>False) w (w.drewN nq):=But.drewN _ _ _;have a4:w.heap.size≤(w.drewN nq).heap.size:=a2.size;revert a3 a2 a4;generalize (w.drewN nq)=V;intro a3 a2 a4;have p6:=a3.c3;have a0:=a3.lt;clear p3 p4 p5 hR;have a1:But (fun _=>False) V V.drew:=But.drew _ _;refine ck (But (fun _=>False) V) 7 (by kernel_rfl) ?_;refine ay (k:=2) (v:= ?vA2) rfl (by decide) (by kernel_rfl) (fun _ _ _ h=>h) rfl a1 ?yA2 ?rA2
   case yA2=>intro wS h;have q0:=(h.kc p6 a0);clear h;go_simp;try rfl
   dsimp only[Act.put]
   try simp only[aK]
   refine ay (k:=3) (v:= ?vA3) rfl (by decide) (by kernel_rfl) (fun _ _ _ h=>h) rfl a1 ?yA3 ?rA3
   case yA3=>intro wS h;have q0:=(h.kc p6 a0);clear h;go_simp;try rfl
   dsimp only[Act.put]
   try simp only[aK]
   refine ay (k:=4) (v:= ?vA4) rfl (by decide) (by kernel_rfl) (fun _ _ _ h=>h) rfl a1 ?yA4 ?rA4
   case yA4=>intro wS h;have q0:=(h.kc p6 a0);clear h;go_simp;try rfl
   dsimp only[Act.put]
   try simp only[aK]
   refine ay (k:=5) (v:= ?vA5) rfl (by decide) (by kernel_rfl) (fun _ _ _ h=>h) rfl a1 ?yA5 ?rA5
   case yA5=>intro wS h;have q0:=(h.kc p6 a0);clear h;go_simp;try rfl
   dsimp only[Act.put]
   try simp only[aK]
   refine ay (k:=0) (v:= ?vA0) rfl (by decide) (by kernel_rfl) (fun _ _ _ h=>h) rfl a1 ?yA0 ?rA0
   case yA0=>intro wS h;have q0:=(h.kc p6 a0);clear h;go_simp;try rfl
   dsimp only[Act.put]
   try simp only[aK]
   refine aA (k:=1) rfl (by decide) (by kernel_rfl) ?_;intro KS hKS;go_simp;refine hKS.out _ _ (fun _=>a1.trans (But.alloc _ _ _)) ?_;clear hKS KS;refine aA (k:=6) rfl (by decide) (by kernel_rfl) ?_;intro KS hKS;go_simp;refine hKS.out _ _ (fun _=>a1.trans (But.alloc _ _ _)) ?_;clear hKS KS;refine aA (k:=7) rfl (by decide) (by kernel_rfl) ?_;intro KS hKS;go_simp;refine hKS.out _ _ nofun ?_;clear hKS KS;refine b7 rfl (by kernel_rfl) ?_;have a5:But (fun _=>False) V (V.drew.alloc (.cells #[.slice none 0 0,.slice none 0 0,.slice none 0 0] 109)):=(But.drew _ _).trans (But.alloc _ _ _);have a6:=heap_alloc_new V.drew (.cells #[.slice none 0 0,.slice none 0 0,.slice none 0 0] 109)
   go_wp2_with fail;exact bodyPost_ret (v:= .tuple #[.pointer (some ⟨V.heap.size,0,none⟩),.int .i64 i]) (by simp[results,Tryz.results103,go_sem]) rfl ⟨a2.trans a5,Or.inl ⟨rfl,V.heap.size,a4,rfl,a6⟩⟩
 |false=>
  by_cases hi:(i:Int)<(s.size:Int)
  ·have HI:Hid ((false||decide (i<s.size))=true):=hid (by simp;omega)
   go_in
   go_wp2
   go_quiet (fail)
   go_wp2_with fail;have a3:=hR.drewN nq;have a2:But (fun _=>False) w (w.drewN nq):=But.drewN _ _ _;have a4:w.heap.size≤(w.drewN nq).heap.size:=a2.size;revert a3 a2 a4;generalize (w.drewN nq)=V;intro a3 a2 a4;have p6:=a3.c3;have a0:=a3.lt;clear p3 p4 p5 hR;have a1:But (fun _=>False) V V.drew:=But.drew _ _;refine ck (But (fun _=>False) V) 7 (by kernel_rfl) ?_;refine ay (k:=2) (v:= ?vB2) rfl (by decide) (by kernel_rfl) (fun _ _ _ h=>h) rfl a1 ?yB2 ?rB2
   case yB2=>intro wS h;have q0:=(h.kc p6 a0);clear h;go_simp;try rfl
   dsimp only[Act.put]
   try simp only[aK]
   refine ay (k:=3) (v:= ?vB3) rfl (by decide) (by kernel_rfl) (fun _ _ _ h=>h) rfl a1 ?yB3 ?rB3
   case yB3=>intro wS h;have q0:=(h.kc p6 a0);clear h;go_simp;try rfl
   dsimp only[Act.put]
   try simp only[aK]
   refine ay (k:=4) (v:= ?vB4) rfl (by decide) (by kernel_rfl) (fun _ _ _ h=>h) rfl a1 ?yB4 ?rB4
   case yB4=>intro wS h;have q0:=(h.kc p6 a0);clear h;go_simp;try rfl
   dsimp only[Act.put]
   try simp only[aK]
   refine ay (k:=5) (v:= ?vB5) rfl (by decide) (by kernel_rfl) (fun _ _ _ h=>h) rfl a1 ?yB5 ?rB5
   case yB5=>intro wS h;have q0:=(h.kc p6 a0);clear h;go_simp;try rfl
   dsimp only[Act.put]
   try simp only[aK]
   refine ay (k:=0) (v:= ?vB0) rfl (by decide) (by kernel_rfl) (fun _ _ _ h=>h) rfl a1 ?yB0 ?rB0
   case yB0=>intro wS h;have q0:=(h.kc p6 a0);clear h;go_simp;try rfl
   dsimp only[Act.put]
   try simp only[aK]
   refine aA (k:=1) rfl (by decide) (by kernel_rfl) ?_;intro KS hKS;go_simp;refine hKS.out _ _ (fun _=>a1.trans (But.alloc _ _ _)) ?_;clear hKS KS;refine aA (k:=6) rfl (by decide) (by kernel_rfl) ?_;intro KS hKS;go_simp;refine hKS.out _ _ (fun _=>a1.trans (But.alloc _ _ _)) ?_;clear hKS KS;refine aA (k:=7) rfl (by decide) (by kernel_rfl) ?_;intro KS hKS;go_simp;refine hKS.out _ _ nofun ?_;clear hKS KS;refine b7 rfl (by kernel_rfl) ?_;have a5:But (fun _=>False) V (V.drew.alloc (.cells #[.slice none 0 0,.slice none 0 0,.slice none 0 0] 109)):=(But.drew _ _).trans (But.alloc _ _ _);have a6:=heap_alloc_new V.drew (.cells #[.slice none 0 0,.slice none 0 0,.slice none 0 0] 109)
   go_wp2_with fail;exact bodyPost_ret (v:= .tuple #[.pointer (some ⟨V.heap.size,0,none⟩),.int .i64 i]) (by simp[results,Tryz.results103,go_sem]) rfl ⟨a2.trans a5,Or.inl ⟨HI.out,V.heap.size,a4,rfl,a6⟩⟩
  ·have HI:Hid ((false||decide (i<s.size))=false):=hid (by simp;omega)
   go_in
   go_wp2
   go_quiet (fail)
   go_wp2_with fail;exact bodyPost_ret (v:= .tuple #[.pointer (some ⟨b,0,none⟩),.int .i64 (-1)]) (by simp[results,Tryz.results103,go_sem]) rfl ⟨But.drewN _ _ _,Or.inr ⟨HI.out,rfl⟩⟩
def s8 (Gd:Prop) (s:ByteArray) (cs:List Cls) (gs:List Sig) (R:Except Nat (List Bod×Nat)) (mm:Nat) (bs:List ba) (j:Nat) (bad:Bool):Prop:=
 (bad=false∧Gd∧ ∃BS,bs=BS.map (aW gs)∧(∀b∈BS,eD b)∧BS.length+mm=6∧eG s cs gs mm BS j=R)∨(bad=true∧R= .error j)
section
variable {Gd:Prop} {s:ByteArray} {cs:List Cls} {gs:List Sig} {R:Except Nat (List Bod×Nat)}
theorem u9 {k:Nat} {BS:List Bod} {i:Nat} (h:(pk s i).toNat≠59):eG s cs gs (k+1) BS i=match ew s cs.length gs BS i with
  | .error j=> .error j
  | .ok ((x,m,t),p)=>
   match cD s cs gs.length (t.length+2) 100 [] p with
   | .error q=> .error q
   | .ok (is,q)=>eG s cs gs k (BS++ [⟨x,m,UInt8.ofNat (65+x)::gM gs m::t,is⟩]) q:=by
 unfold ew;rw[eG,if_neg h]
 cases dH s cs.length i with
 |error j=>rfl
 |ok y=>
  obtain⟨x,j⟩:=y;simp only
  cases de s gs.length j with
  |error l=>rfl
  |ok z=>
   obtain⟨m,l⟩:=z;simp only
   split
   ·rfl
   ·cases tys s cs.length 58 3 [] l with
    |error p=>rfl
    |ok t=>
     obtain⟨t,p⟩:=t;simp only
     cases cD s cs gs.length (t.length+2) 100 [] p<;>rfl
theorem s8.fin {mm:Nat} {bs:List ba} {j:Nat} {bad:Bool} (h:s8 Gd s cs gs R mm bs j bad) (hx: ¬bs.length<6∨(!bad&& !decide (pk s j=59))=false):
  ((tkP s 59 j bad).2=false∧Gd∧ ∃BS,R= .ok (BS,(tkP s 59 j bad).1)∧bs=BS.map (aW gs)∧ ∀b∈BS,eD b)∨((tkP s 59 j bad).2=true∧R= .error (tkP s 59 j bad).1):=by
 rcases h with⟨rfl,hG,BS,h1,h2,h3,h4⟩ | ⟨rfl,h2⟩
 ·by_cases hp:pk s j=59
  ·left
   rw[jS hp];refine⟨rfl,hG,BS,?_,h1,h2⟩;rw[←h4]
   cases mm<;>simp[eG,hp]
  ·right
   rw[dQ (Or.inr hp)];refine⟨rfl,?_⟩
   have hm:mm=0:=by
    rcases hx with h|h
    ·rw[h1,List.length_map]at h;omega
    ·simp[hp]at h
   subst hm;rw[←h4];have:(pk s j).toNat≠59:=fun h=>hp ((u8n (by decide)).1 h)
   simp[eG,this]
 ·right
  rw[dQ (Or.inl rfl)];exact⟨rfl,h2⟩
theorem oB {m:Nat} (h:m<gs.length):(cC gs m).arg=gM gs m:=by
 unfold cC gM;rw[List.getElem?_eq_getElem h]
 rfl
theorem s8.next {mm:Nat} {bs:List ba} {j:Nat} (h:s8 Gd s cs gs R mm bs j false) (hnc:cs.length≤4) (hl:bs.length<6) (hp:pk s j≠59):
  Gd∧ ∃BS,bs=BS.map (aW gs)∧(∀b∈BS,eD b)∧BS.length≤6∧ ∀c m r l j1 a0,((a0=false∧ ∃x t,ew s cs.length gs BS j= .ok ((x,m,t),j1)∧c=UInt8.ofNat (65+x)∧x<cs.length∧m<gs.length∧r=(cC gs m).ret∧l=c::(cC gs m).arg::t)∨(a0=true∧ew s cs.length gs BS j= .error j1))→
   ∀X j2 a1,((a1=false∧ ∃is,fh s cs gs.length l.length j1 a0= .ok (is,j2)∧X=⟨c,m,r,l,is.map bj⟩)∨(a1=true∧fh s cs gs.length l.length j1 a0= .error j2))→
   ∃m',m'<mm∧s8 Gd s cs gs R m' (bs++ [X]) j2 a1:=by
 rcases h with⟨_,hG,BS,h1,h2,h3,h4⟩ | ⟨h,_⟩
 ·have a4:BS.length<6:=by rw[h1,List.length_map]at hl;exact hl
  refine⟨hG,BS,h1,h2,by omega,?_⟩;intro c m r l j1 a0 hh X j2 a1 hc;obtain⟨f,rfl⟩: ∃f,mm=f+1:=⟨mm-1,by omega⟩;have a2:(pk s j).toNat≠59:=fun h=>hp ((u8n (by decide)).1 h)
  rw[u9 a2]at h4;rcases hh with⟨rfl,x,t,e1,e2,e3,e4,e5,e6⟩ | ⟨rfl,e1⟩
  ·rw[e1]at h4;simp only at h4;unfold fh at hc;simp only[Bool.false_eq_true,if_false]at hc;rw[show l.length=t.length+2 from by rw[e6];rfl]at hc;rcases hc with⟨rfl,is,c1,c2⟩ | ⟨rfl,c1⟩
   ·rw[c1]at h4;refine⟨f,by omega,Or.inl ⟨rfl,hG,BS++ [⟨x,m,UInt8.ofNat (65+x)::gM gs m::t,is⟩],?_,?_,by simp;omega,h4⟩⟩
    ·rw[h1,List.map_append,c2];simp only[List.map_cons,List.map_nil,aW]
     congr 2
     rw[e6,e5,e2,oB e4];have a3: ¬((x:Int)<0):=by omega
     simp[a3]
    ·intro b hb;rcases List.mem_append.1 hb with hb|hb
     ·exact h2 b hb
     ·simp at hb;subst hb;exact⟨by simp,by simp;omega,by simp⟩
   ·rw[c1]at h4;exact⟨0,by omega,Or.inr ⟨rfl,h4.symm⟩⟩
  ·rw[e1]at h4;simp only at h4;unfold fh at hc;simp only[if_true]at hc;rcases hc with⟨_,is,c1,_⟩ | ⟨rfl,c1⟩
   ·cases c1
   ·cases c1
    exact⟨0,by omega,Or.inr ⟨rfl,h4.symm⟩⟩
 ·cases h
end
structure dE (w:World) (b:Nat) (im:Img):Prop where
 cls:TxC w b (im.classes.map toX)
 met:TxM w b im.sigs
 bod:TxB w b (im.bodies.map (aW im.sigs))
theorem xE {s:ByteArray} {SC:List Cls} {n:Nat} {ms:List Sig} {cs:List bz} {bs:List ba} {l:List UInt8} {X:ba} {j0 j1 j2 j3 j4:Nat} {b0 b1 b2 b3 b4:Bool} {R:Except Nat (List Bod×Nat)}
  (hcls:(b0=false∧ ∃SC',di s 4 [] 0= .ok (SC',j0)∧SC'=SC∧cs=SC.map toX∧WfC SC)∨(b0=true∧di s 4 [] 0= .error j0)) (hn:SC.length=n)
  (hsig:(b1=false∧kw s n j0 b0= .ok (ms,j1))∨(b1=true∧kw s n j0 b0= .error j1))
  (hR:(if b1=true then .error j1 else eG s SC ms 6 [] j1)=R)
  (hbod:(b2=false∧(b1=false)∧ ∃BS,R= .ok (BS,j2)∧bs=BS.map (aW ms)∧ ∀b∈BS,eD b)∨(b2=true∧R= .error j2))
  (hmain:(b3=false∧dU s n 58 3 j2 b2= .ok (l,j3))∨(b3=true∧dU s n 58 3 j2 b2= .error j3))
  (hcode:(b4=false∧ ∃is,fh s SC ms.length l.length j3 b3= .ok (is,j4)∧X=⟨45,0,105,l,is.map bj⟩)∨(b4=true∧fh s SC ms.length l.length j3 b3= .error j4)):
  ((b4||decide (j4<s.size))=true∧dp s= .error j4)∨((b4||decide (j4<s.size))=false∧ ∃im,dp s= .ok im∧im.classes=SC∧cs=SC.map toX∧im.sigs=ms∧bs++ [X]=im.bodies.map (aW ms)):=by
 unfold dp;rcases hcls with⟨rfl,SC',hc,rfl,a3,a4⟩ | ⟨rfl,hc⟩
 ·rw[hc];simp only;unfold kw at hsig;simp only[Bool.false_eq_true,if_false]at hsig;rw[hn];rcases hsig with⟨rfl,a1⟩ | ⟨rfl,a1⟩
  ·rw[a1];simp only;simp only[Bool.false_eq_true,if_false]at hR;rw[hR];rcases hbod with⟨rfl,_,BS,hb,a2,_⟩ | ⟨rfl,hb⟩
   ·rw[hb];simp only;unfold dU at hmain;simp only[Bool.false_eq_true,if_false]at hmain;rcases hmain with⟨rfl,hm⟩ | ⟨rfl,hm⟩
    ·rw[hm];simp only;unfold fh at hcode;simp only[Bool.false_eq_true,if_false]at hcode;rcases hcode with⟨rfl,is,a0,hX⟩ | ⟨rfl,a0⟩
     ·rw[a0];simp only
      by_cases hlt:j4<s.size
      ·left
       rw[if_pos hlt];exact⟨by simp[hlt],rfl⟩
      ·right
       rw[if_neg hlt];refine⟨by simp[hlt],_,rfl,rfl,a3,rfl,?_⟩;rw[a2,hX,List.map_append]
       rfl
     ·rw[a0];exact Or.inl ⟨rfl,rfl⟩
    ·rw[hm];unfold fh at hcode;simp only[if_true]at hcode;rcases hcode with⟨_,is,a0,_⟩ | ⟨rfl,a0⟩
     ·cases a0
     ·cases a0
      exact Or.inl ⟨rfl,rfl⟩
   ·rw[hb];unfold dU at hmain;simp only[if_true]at hmain;rcases hmain with⟨_,hm⟩ | ⟨rfl,hm⟩
    ·cases hm
    ·cases hm
     unfold fh at hcode;simp only[if_true]at hcode;rcases hcode with⟨_,is,a0,_⟩ | ⟨rfl,a0⟩
     ·cases a0
     ·cases a0
      exact Or.inl ⟨rfl,rfl⟩
  ·rw[a1];simp only[if_true]at hR;subst hR;rcases hbod with⟨_,h,_⟩ | ⟨rfl,hb⟩
   ·cases h
   ·cases hb
    unfold dU at hmain;simp only[if_true]at hmain;rcases hmain with⟨_,hm⟩ | ⟨rfl,hm⟩
    ·cases hm
    ·cases hm
     unfold fh at hcode;simp only[if_true]at hcode;rcases hcode with⟨_,is,a0,_⟩ | ⟨rfl,a0⟩
     ·cases a0
     ·cases a0
      exact Or.inl ⟨rfl,rfl⟩
 ·rw[hc];unfold kw at hsig;simp only[if_true]at hsig;rcases hsig with⟨_,h⟩ | ⟨rfl,a1⟩
  ·cases h
  ·cases a1
   simp only[if_true]at hR;subst hR;rcases hbod with⟨_,h,_⟩ | ⟨rfl,hb⟩
   ·cases h
   ·cases hb
    unfold dU at hmain;simp only[if_true]at hmain;rcases hmain with⟨_,hm⟩ | ⟨rfl,hm⟩
    ·cases hm
    ·cases hm
     unfold fh at hcode;simp only[if_true]at hcode;rcases hcode with⟨_,is,a0,_⟩ | ⟨rfl,a0⟩
     ·cases a0
     ·cases a0
      exact Or.inl ⟨rfl,rfl⟩
end
end Go.Proofs.YtpfkkmacakjmbaaGreatDoor
