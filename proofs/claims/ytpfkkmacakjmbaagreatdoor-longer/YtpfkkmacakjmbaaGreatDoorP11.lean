import Derived.Test.YtpfkkmacakjmbaaGreatDoorP10
set_option maxRecDepth 100000
set_option maxHeartbeats 6400000
set_option linter.unusedSimpArgs false
set_option linter.unusedVariables false
namespace Go.Proofs.YtpfkkmacakjmbaaGreatDoor
section
open Go Go.RowKit Sp
attribute [local go_sem ↓] Go.wp_at_zero Go.wp_at_succ
theorem wE:(Tryz.prog.info? 115).map (fun i=>(i.zero,i.size,i.bytes))=some (some (.agg #[.int .u8 0,.int .i64 0,.int .u8 0,.slice none 0 0,.slice none 0 0]),5,72):=by kernel_rfl
theorem iC:(Tryz.prog.info? 219).map (fun i=>(i.zero,i.size,i.bytes))=some (some (.agg #[.int .i64 0,.int .u8 0,.int .u8 0,.int .i64 0,.slice none 0 0]),5,48):=by kernel_rfl
theorem r9 (l:List XIt): ∀u∈bF l,u.oneCell'=true:=by
 intro u hu;obtain⟨x,_,hx⟩:=List.mem_flatMap.1 hu;simp only[List.mem_cons,List.not_mem_nil,or_false]at hx;rcases hx with h|h|h|h|h<;>(rw[h];rfl)
theorem qz (w:World) (ty:TypeId) (base bx:Nat) (v xv:Value) (m:List XIt) (hown:ItB w base v []) (hx:ItB w bx xv m) (hlen:m.length≤100000) (hbase:base≤w.heap.size):
  ∃v' w',(Builtin.append_ #[113,113] ty #[v,xv]).run Tryz.prog w= .ok v' w'∧ItB w' base v' m∧But (fun k=>v.ownBlock=some k) w w'∧(v'.ownBlock=v.ownBlock∨v'.ownBlock=some w.heap.size):=by
 obtain⟨i0,a1,a4,a2,a5⟩:=info_parts iC;have hu:Tryz.prog.underlying 113=some (.slice 219):=by kernel_rfl
 obtain⟨ax,cx,rfl⟩:=aw hx
 cases ax with
 |none=>
  have hm:m.length=0:=by
   rcases Nat.eq_zero_or_pos m.length with h|h
   ·exact h
   ·obtain⟨g,hg,_⟩:=aI hx h
    cases hg
  have a3:m=[]:=List.length_eq_zero_iff.1 hm;subst a3
  have hc: ∃ao cap,v= .slice ao 0 cap:=by
   obtain⟨ao,cap,h⟩:=aw hown;exact⟨ao,cap,h⟩
  obtain⟨ao,cap,rfl⟩:=hc;refine⟨_,w,run_append_nothing w _ _ ty 219 i0 hu a1 ao 0 cap (by omega) _ (by rw[a2];exact Src.ofNil w hu cx),hown,But.refl _ _,Or.inl rfl⟩
 |some ad=>
  have a0: ∀j u,(bF m)[j]?=some u→w.cell? (ad.add j)=some u:=by
   intro j u hj;obtain⟨g,cap',hv,hc,_⟩:=iu hx hj
   have h1:ad=⟨g,0,none⟩:=by
    have h2:=congrArg (fun v=>match v with|Value.slice a _ _=>a|_=>none) hv;exact Option.some.inj h2
   rw[h1];have e:(⟨g,0,none⟩:Addr).add j=⟨g,j,none⟩:=by simp[Addr.add];exact fun h=>h.symm
   rw[e];exact hc
  obtain⟨v',w',hr,h2,h3,_,h5⟩:=run_append_own_at (P:=Tryz.prog) w base _ ty 219 i0 _ 5 48 hu a1 a4 a2 a5 rfl (by omega) v 0 (bF []) hown ad m.length cx (bF m) (rX m) a0 (r9 m) (by unfold maxLen;omega) (by omega) hbase;refine⟨v',w',hr,?_,bc h3,h5⟩;unfold ItB;rw[Nat.zero_add]at h2;exact h2
theorem jh {w:World} {ops:Array Oper} {rest:List Oper} {o:Oper} {a:Act} {Q:Exit→Act→World→Prop} (hgd:o.guard=none) (s x:Operand)
  (ho:o.op= .call {callee:= .builtin .append,args:=#[s,x],argTypes:=#[113,113]}) (base bx:Nat) (v xv:Value) (m:List XIt) (hs:a.eval s=v) (hx:a.eval x=xv) (hown:ItB w base v []) (hxo:ItB w bx xv m) (hlen:m.length≤100000) (hbase:base≤w.heap.size)
  (h: ∀ao cap w',ItB w' base (.slice ao m.length cap) m→But (fun k=>v.ownBlock=some k) w w'→wpList Tryz.prog ops Q rest (a.put o.dst (.slice ao m.length cap)) w'):wpList Tryz.prog ops Q (o::rest) a w:=by
 refine wpList_plain hgd fun K hK=> ?_
 obtain⟨v',w',hr,h1,h2,h3⟩:=qz w o.type base bx v xv m hown hxo hlen hbase;obtain⟨ao,cap,rfl⟩:=aw h1;unfold Oper.wp execOp;simp only[ho,resolve,invoke,builtin,Sem.run_bind,Sem.run_pure,Result.andThen_ok,List.map_toArray,List.map_cons,List.map_nil,hs,hx,hr];exact hK _ _ (h ao cap w' h1 h2)
theorem ItB.empty (w:World):ItB (w.alloc (.cells #[] 219)) w.heap.size (.slice (some ⟨w.heap.size,0,none⟩) 0 0) []:=
 ⟨rfl,Or.inr ⟨w.heap.size,0,#[],rfl,Nat.le_refl _,heap_alloc_new w _,by simp,by unfold maxLen;omega,rfl,rfl⟩⟩
theorem fK (b base bx:Nat) (s:ByteArray) (i:Nat) (bad mn:Bool) (v0 v1 vi:Value) (a2:Option Addr) (cap2:Nat) (bs:List bz) (X:bz) (al ai:Option Addr) (capl capi:Nat) (w:World) (hnb:bs.length≤7) (hni:X.items.length≤100) (hs:s.size≤2000)
  (hR:XrB w b s i bad v0 v1 ⟨.slice a2 bs.length cap2,.int .u8 X.cls.toNat,.int .i64 X.meth,.int .u8 X.ans.toNat,.slice al X.locals.length capl,vi,mn⟩) (hT:TbV w base (.slice a2 bs.length cap2) bs) (hl:BtB w base (.slice al X.locals.length capl) X.locals) (hi:ItB w bx (.slice ai X.items.length capi) X.items) (hb:b<base) (hbx:b<bx) (hbase:base≤w.heap.size):
  Calls Tryz.prog 102 #[.pointer (some ⟨b,0,none⟩),.slice ai X.items.length capi] w fun en w'=>en= .returned (.tuple #[])∧But (fun k=>k=b∨(Value.slice a2 bs.length cap2).ownBlock=some k) w w'∧
   ∃a2' cap2' vi',XrB w' b s (tkP s 46 i bad).1 (tkP s 46 i bad).2 v0 v1 ⟨.slice a2' (bs++ [X]).length cap2',.int .u8 X.cls.toNat,.int .i64 X.meth,.int .u8 X.ans.toNat,.slice al X.locals.length capl,vi',mn⟩∧TbV w' base (.slice a2' (bs++ [X]).length cap2') (bs++ [X]):=by
 obtain⟨i0,g1,g5,g6,h2⟩:=info_parts wE;obtain⟨l,hO,hm,hf⟩:=hT;have e1:l.length=bs.length:=by rw[←hm];simp
 have f5:=hid e1;rw[←e1]at hR hO hnb⊢;clear e1;have h6:=hR.lt;have b6:=dv b s i bad _ _ _ _ 46 (by decide) hs hR;obtain⟨TK,f4⟩: ∃TK,tkP s 46 i bad=TK:=⟨_,rfl⟩;rw[f4]at b6⊢;clear f4;obtain⟨j1,f7⟩:=TK;dsimp only at b6⊢;have e8:=hid b6;clear b6
 go_in
 go_wp2_with fail;refine e8.out.mono ?_;rintro en w1 ⟨rfl,b9,d6⟩;have f1:ItB w1 bx (.slice ai X.items.length capi) X.items:=ag hi b9 (fun g hg h=>by have:=aA hi g hg;omega);have h0:=b9.size;have hE:=ItB.empty w1;have e0:=d6.but (But.alloc (fun _=>False) w1 (.cells #[] 219)) (fun h=>h);go_wp2_with (at_builtin;refine jh rfl _ _ rfl w1.heap.size bx _ _ X.items rfl rfl hE (ag f1 (But.alloc (fun _=>False) _ _) (fun _ _ h=>h)) (by omega) (by simp) ?_);intro ao cap w2 c6 e9;have a8:But (fun _=>False) w1 w2:=(But.alloc (fun _=>False) _ _).next e9 (fun k hk h=>by simp[Value.ownBlock]at h;omega);have b4:=d6.but a8 (fun h=>h)
 have c7:=b4.d4;have g7:=b4.fz 7;have h3:=a8.size;clear f1 hE e0;go_wp2_with fail;have b5:=b4.setI (.slice ao X.items.length cap);have b0:But (· =b) w2 (w2.setCell ⟨b,7,none⟩ (.slice ao X.items.length cap)):=But.setB _ _ _ _;have b3:ItB (w2.setCell ⟨b,7,none⟩ (.slice ao X.items.length cap)) w1.heap.size (.slice ao X.items.length cap) X.items:=ag c6 b0 (fun g hg h=>by have:=aA c6 g hg;omega);have a6:But (· =b) w (w2.setCell ⟨b,7,none⟩ (.slice ao X.items.length cap)):=(b9.next a8 (fun _ _ h=>h.elim)).trans b0;revert b5 b3 a6;generalize (w2.setCell ⟨b,7,none⟩ (.slice ao X.items.length cap))=W;intro a4 b3 a6
 have g3:ItB W base (.slice ao X.items.length cap) X.items:=World.ownsRow.mono b3 (by omega);clear b0 b3 c6 e9 c7 g7 b4 d6 hi;dsimp only at a4;have f3:=ag hO a6 (fun g hg h=>by have:=aA hO g hg;omega);have h8:=aX hO;have e2:=a4.c2;have e3:=a4.d0;have e4:=a4.d1;have e5:=a4.d2;have e6:=a4.d3;have e7:=a4.d4;have g2:=a4.fz 2;have bltW:=a4.lt;dsimp only at e2 e3 e4 e5 e6 e7;have ab:(Value.slice a2 l.length cap2).ownBlock≠some b:=fun h=>by have:=aA hO _ h;omega
 have g0:But (fun k=>(Value.slice a2 l.length cap2).ownBlock=some k) W W.drew:=But.drew _ _;have h5:base≤W.heap.size:=by have:=a6.size;omega
 have HM:=hid hm;clear hm e8;refine aD (But (fun k=>(Value.slice a2 l.length cap2).ownBlock=some k) W) 12 (by kernel_rfl) ?_
 iterate 10 (refine aJ (v:=?_) rfl (by kernel_rfl) (fun _ _ _ h=>h) rfl g0 ?_ ?_;rotate_left;(focus (intro wS h;have q0:=((h.cell (p:=⟨b,2,none⟩) bltW ab).trans e2);have q1:=((h.cell (p:=⟨b,3,none⟩) bltW ab).trans e3);have q2:=((h.cell (p:=⟨b,4,none⟩) bltW ab).trans e4);have q3:=((h.cell (p:=⟨b,5,none⟩) bltW ab).trans e5);have q4:=((h.cell (p:=⟨b,6,none⟩) bltW ab).trans e6);have q5:=((h.cell (p:=⟨b,7,none⟩) bltW ab).trans e7);clear h;go_simp;try rfl));dsimp only[Act.put];try simp only[aL])
 refine ah rfl (by kernel_rfl) ?_;intro KS hKS;go_simp;refine hKS.out _ _ (fun _=>(But.alloc _ _ _).trans (But.drew _ _)) ?_;clear hKS KS;refine ah rfl (by kernel_rfl) ?_;intro KS hKS
 refine step_append_lies _ (by rfl) _ _ _ (by rfl) base 115 i0 _ 5 72 (by kernel_rfl) g1 g5 g6 h2 rfl (by omega) _ l.length (j9 l) (by rfl) ((f3.alloc _).drew)
    ⟨W.heap.size,0,none⟩ 1 1 [.int .u8 X.cls.toNat,.int .i64 X.meth,.int .u8 X.ans.toNat,.slice al X.locals.length capl,.slice ao X.items.length cap] (by rfl) (by rfl) (World.news_of_block (cs:=#[.int .u8 X.cls.toNat,.int .i64 X.meth,.int .u8 X.ans.toNat,.slice al X.locals.length capl,.slice ao X.items.length cap]) (t:=115) (fr:=(0,0)) (heap_alloc_new W _)) (by simp[Value.oneCell'])
    (by omega) (by unfold maxLen;omega) (by omega) (by simp;omega) (W.heap.size+1) (by simp) ?_
 intro gg a0 w4 a3 a7 h4 g4;have b1:But (fun k=>(Value.slice a2 l.length cap2).ownBlock=some k) W w4:=((But.alloc _ _ _).trans (But.drew _ _)).trans (bc a7);refine hKS.out _ _ (fun _=>b1) ?_;clear hKS KS;have y0:=(b1.cell (p:=⟨b,2,none⟩) bltW ab).trans e2;have y1:=(b1.frozen (p:=⟨b,2,none⟩) bltW ab).trans g2;refine ah rfl (by kernel_rfl) ?_;intro KS hKS;go_simp;refine hKS.out _ _ nofun ?_;clear hKS KS;refine ah rfl (by kernel_rfl) ?_;intro KS hKS;go_simp;refine hKS.out _ _ nofun ?_;clear hKS KS;refine ah rfl (by kernel_rfl) ?_;intro KS hKS;go_simp;refine hKS.out _ _ nofun ?_;clear hKS KS;refine ah rfl (by kernel_rfl) ?_
 intro KS hKS;go_simp;refine hKS.out _ _ nofun ?_;clear hKS KS;refine aH rfl (by kernel_rfl) ?_;have h7:=aA a3 gg rfl;have b5:=(a4.but b1 ab).set2 (.slice (some ⟨gg,0,none⟩) (l.length+1) a0);have a1:But (fun k=>k=b∨(Value.slice a2 l.length cap2).ownBlock=some k) W (w4.setCell ⟨b,2,none⟩ (.slice (some ⟨gg,0,none⟩) (l.length+1) a0)):=(b1.mono (fun _ _ h=>Or.inr h)).next (But.setB _ _ _ _) (fun _ _ h=>Or.inl h);have f2:=ag a3 (But.setB w4 b 2 (.slice (some ⟨gg,0,none⟩) (l.length+1) a0)) (fun g hg h=>by have:=aA a3 g hg;omega)
 have f0: ∀x∈l++ [(X,.slice al X.locals.length capl,.slice ao X.items.length cap)],BtB (w4.setCell ⟨b,2,none⟩ (.slice (some ⟨gg,0,none⟩) (l.length+1) a0)) base x.2.1 x.1.locals∧ItB (w4.setCell ⟨b,2,none⟩ (.slice (some ⟨gg,0,none⟩) (l.length+1) a0)) base x.2.2 x.1.items:=by
  have a5: ∀g cur e,W.heap[g]?=some (.cells cur e)→e≠115→base≤g→ ¬(g=b∨(Value.slice a2 l.length cap2).ownBlock=some g):=by
   intro g cur e hh he hg h;rcases h with h|h
   ·omega
   ·exact ex f3 hh he h
  intro x hx;rcases List.mem_append.1 hx with hx|hx
  ·have h1:=hf x hx;exact⟨aY (BtB.but h1.1 a6 (fun g hg h=>by have:=aA h1.1 g hg;omega)) a1 (fun g cur hh hg=>a5 g cur _ hh (by decide) hg),aY (ag h1.2 a6 (fun g hg h=>by have:=aA h1.2 g hg;omega)) a1 (fun g cur hh hg=>a5 g cur _ hh (by decide) hg)⟩
  ·simp at hx;subst hx;exact⟨aY (hl.but a6 (fun g hg h=>by have:=aA hl g hg;omega)) a1 (fun g cur hh hg=>a5 g cur _ hh (by decide) hg),aY g3 a1 (fun g cur hh hg=>a5 g cur _ hh (by decide) hg)⟩
 have f9:TbV (w4.setCell ⟨b,2,none⟩ (.slice (some ⟨gg,0,none⟩) (l.length+1) a0)) base (.slice (some ⟨gg,0,none⟩) (l.length+1) a0) (bs++ [X]):=
  ⟨l++ [(X,.slice al X.locals.length capl,.slice ao X.items.length cap)],by rw[qu,List.length_append];exact f2,by rw[List.map_append,HM.out];rfl,f0⟩
 have f8:But (fun k=>k=b∨(Value.slice a2 l.length cap2).ownBlock=some k) w (w4.setCell ⟨b,2,none⟩ (.slice (some ⟨gg,0,none⟩) (l.length+1) a0)):=(a6.mono (fun _ _ h=>Or.inl h)).trans a1;clear f0 a1 f2;generalize (w4.setCell ⟨b,2,none⟩ (.slice (some ⟨gg,0,none⟩) (l.length+1) a0))=W3 at*;clear y0 y1 e2 e3 e4 e5 e6 e7 g2 b1 a7;have b2:(bs++ [X]).length=l.length+1:=by rw[List.length_append,←f5.out];rfl
 have f6:=hid b2;clear b2;dsimp only at b5;go_wp2_with fail;go_end0;refine⟨rfl,f8,some ⟨gg,0,none⟩,a0,.slice ao X.items.length cap,?_⟩;rw[f6.out];exact⟨b5,f9⟩
def fE (s:ByteArray) (cs:List Cls) (ns nl i:Nat) (bad:Bool):Except Nat (List Ins×Nat):=if bad=true then .error i else fR s cs ns nl 100 [] i
def ji (s:ByteArray) (cs:List Cls) (ns nl:Nat) (R:Except Nat (List Ins×Nat)) (mm:Nat) (items:List XIt) (j:Nat) (bad:Bool):Prop:=
 (bad=false∧ ∃is,items=is.map aK∧is≠ []∧is.length+mm=100∧fR s cs ns nl mm is j=R)∨(bad=true∧R= .error j)
section
variable {s:ByteArray} {cs:List Cls} {ns nl:Nat} {R:Except Nat (List Ins×Nat)}
theorem nU {k:Nat} {is:List Ins} {j:Nat} (h: ¬((pk s j).toNat=46∧is≠ [])):fR s cs ns nl (k+1) is j=match mX s cs ns nl j with
  | .error j=> .error j
  | .ok (x,j)=>fR s cs ns nl k (is++ [x]) j:=by
 rw[fR,if_neg h]
 cases mX s cs ns nl j<;>rfl
theorem ji.start {i:Nat} {bad:Bool} (hR:fE s cs ns nl i bad=R) {x:XIt} {j:Nat} {bad':Bool} (h:gv s cs ns nl i bad x j bad'):ji s cs ns nl R 99 [x] j bad':=by
 unfold fE at hR;unfold gv oV at h
 cases bad with
 |true=>
  simp only[if_true]at h hR;rcases h with⟨_,y,h,_⟩ | ⟨h1,h2⟩
  ·cases h
  ·cases h2
   exact Or.inr ⟨h1,hR.symm⟩
 |false=>
  simp only[Bool.false_eq_true,if_false]at h hR;rw[nU (by simp)]at hR;rcases h with⟨h1,y,h2,h3⟩ | ⟨h1,h2⟩
  ·rw[h2]at hR;exact Or.inl ⟨h1,[y],by simp[h3],by simp,by simp,hR⟩
  ·rw[h2]at hR;exact Or.inr ⟨h1,hR.symm⟩
theorem ji.next {mm:Nat} {items:List XIt} {j:Nat} (h:ji s cs ns nl R mm items j false) (hl:items.length<100) (hp:pk s j≠46) {x:XIt} {j':Nat} {bad':Bool} (hi:gv s cs ns nl j false x j' bad'): ∃m',m'<mm∧ji s cs ns nl R m' (items++ [x]) j' bad':=by
 rcases h with⟨_,is,h1,h2,h3,h4⟩ | ⟨h,_⟩
 ·have a0:is.length<100:=by rw[h1,List.length_map]at hl;exact hl
  obtain⟨f,rfl⟩: ∃f,mm=f+1:=⟨mm-1,by omega⟩;rw[nU (fun h=>hp ((u8n (by decide)).1 h.1))]at h4;unfold gv oV at hi;simp only[Bool.false_eq_true,if_false]at hi;rcases hi with⟨e1,y,e2,e3⟩ | ⟨e1,e2⟩
  ·rw[e2]at h4;exact⟨f,by omega,Or.inl ⟨e1,is++ [y],by rw[h1,List.map_append,e3];rfl,by simp,by simp;omega,h4⟩⟩
  ·rw[e2]at h4;exact⟨0,by omega,Or.inr ⟨e1,h4.symm⟩⟩
 ·cases h
theorem ji.fin {mm:Nat} {items:List XIt} {j:Nat} {bad:Bool} (h:ji s cs ns nl R mm items j bad) (hx:bad=true∨ ¬items.length<100∨pk s j=46):
  ((tkP s 46 j bad).2=false∧ ∃is,R= .ok (is,(tkP s 46 j bad).1)∧items=is.map aK)∨((tkP s 46 j bad).2=true∧R= .error (tkP s 46 j bad).1):=by
 rcases h with⟨rfl,is,h1,h2,h3,h4⟩ | ⟨rfl,h2⟩
 ·by_cases hp:pk s j=46
  ·left
   rw[kI hp];refine⟨rfl,is,?_,h1⟩;rw[←h4]
   cases mm<;>simp[fR,hp,h2]
  ·right
   rw[ea (Or.inr hp)];refine⟨rfl,?_⟩
   have hm:mm=0:=by
    rcases hx with h|h|h
    ·cases h
    ·rw[h1,List.length_map]at h;omega
    ·exact absurd h hp
   subst hm;rw[←h4];have: ¬((pk s j).toNat=46∧is≠ []):=fun h=>hp ((u8n (by decide)).1 h.1)
   simp only[fR,if_neg this]
 ·right
  rw[ea (Or.inl rfl)];exact⟨rfl,h2⟩
end
def CL (s:ByteArray) (SC:List Cls) (a0 a1:Option Addr) (ng nl cap0 cap1:Nat) (v2:RdV) (b base:Nat) (R:Except Nat (List Ins×Nat)) (en:Ending) (w':World):Prop:=
 ∃ao cap items j bad' mm,en= .returned (.slice ao (List.length items) cap)∧XrB w' b s j bad' (.slice a0 SC.length cap0) (.slice a1 ng cap1) v2∧ItB w' base (.slice ao items.length cap) items∧items.length≤100∧
   ji s SC ng nl R mm items j bad'∧(bad'=true∨ ¬items.length<100∨pk s j=46)
theorem mx (b base:Nat) (s:ByteArray) (i:Nat) (bad:Bool) (SC:List Cls) (a0 a1 al:Option Addr) (ng nl cap0 cap1 capl:Nat) (v2:RdV) (w:World)
  (hG:bad=true∨(WfC SC∧TcV w base (.slice a0 SC.length cap0) (SC.map toX))) (hnc:SC.length≤4) (hng:ng≤3) (hnl:nl≤10) (hs:s.size≤2000)
  (hR:XrB w b s i bad (.slice a0 SC.length cap0) (.slice a1 ng cap1) v2) (hv:v2.hl= .slice al nl capl) (hb:b<base):
  Calls Tryz.prog 101 #[.pointer (some ⟨b,0,none⟩)] w fun en w'=>But (· =b) w w'∧
   CL s SC a0 a1 ng nl cap0 cap1 v2 b w.heap.size (fE s SC ng nl i bad) en w':=by
 obtain⟨R,e7⟩: ∃R,fE s SC ng nl i bad=R:=⟨_,rfl⟩;rw[e7];have f2:=hid e7;clear e7;obtain⟨i0,g7,h4,h5,h6⟩:=info_parts iC;have i1:=hR.lt;have HG:=hid hG;have a7:=hid (fun(w':World) (i':Nat) (bad':Bool) (h:But (· =b) w w') (hg:bad'=true∨(WfC SC∧TcV w base (.slice a0 SC.length cap0) (SC.map toX))) (hr:XrB w' b s i' bad' (.slice a0 SC.length cap0) (.slice a1 ng cap1) v2)=>uc b base s i' SC a0 a1 al ng nl cap0 cap1 capl v2 w' bad' (hg.imp id (fun q=>⟨q.1,q.2.but h (fun g e cur _ _ hg he=>by omega)⟩)) hnc hng hnl hs hr hv hb);clear hG
 go_in
 go_wp2_with fail;refine(a7.out w i bad (But.refl _ _) HG.out hR).mono ?_;rintro en w1 ⟨f3,x,j1,a8,rfl,f6,e4⟩
 have g1:Hid (a8=true∨(WfC SC∧TcV w base (.slice a0 SC.length cap0) (SC.map toX))):=by
  refine hid ?_;rcases HG.out with h|h
  ·left
   rcases e4 with⟨_,y,h2,_⟩ | ⟨h2,_⟩
   ·rw[h]at h2;simp[oV]at h2
   ·exact h2
  ·exact Or.inr h
 have g0:=hid (ji.start f2.out e4);have e1:=f3;clear e4 f2 HG;unfold itV;go_wp2_with fail;have a5:But (fun _=>False) w1 ((w1.alloc (.cells #[.int .i64 x.place,.int .u8 x.op.toNat,.int .u8 x.cls.toNat,.int .i64 x.num,.slice x.pa x.pn x.pc] 219)).alloc (.cells #[.int .i64 x.place,.int .u8 x.op.toNat,.int .u8 x.cls.toNat,.int .i64 x.num,.slice x.pa x.pn x.pc] 219)):=(But.alloc _ _ _).trans (But.alloc _ _ _)
 have e5:ItB ((w1.alloc (.cells #[.int .i64 x.place,.int .u8 x.op.toNat,.int .u8 x.cls.toNat,.int .i64 x.num,.slice x.pa x.pn x.pc] 219)).alloc (.cells #[.int .i64 x.place,.int .u8 x.op.toNat,.int .u8 x.cls.toNat,.int .i64 x.num,.slice x.pa x.pn x.pc] 219)) w1.heap.size (.slice (some ⟨w1.heap.size+1,0,none⟩) 1 1) [x]:=
  ⟨rfl,Or.inr ⟨w1.heap.size+1,1,_,rfl,by omega,aq (by simp) _,by simp,by unfold maxLen;omega,rfl,rfl⟩⟩
 revert a5 e5;generalize ((w1.alloc (.cells #[.int .i64 x.place,.int .u8 x.op.toNat,.int .u8 x.cls.toNat,.int .i64 x.num,.slice x.pa x.pn x.pc] 219)).alloc (.cells #[.int .i64 x.place,.int .u8 x.op.toNat,.int .u8 x.cls.toNat,.int .i64 x.num,.slice x.pa x.pn x.pc] 219))=w2;intro a5 e5;have g4:=f6.but a5 (fun h=>h);have e2:But (· =b) w w2:=e1.next a5 (fun _ _ h=>h.elim);have e9:=f3.size;have h7:=a5.size;clear f6 a5
 go_loopg [4] 99 (fun mm vs wr=> ∃(ao:Option Addr) (cap j:Nat) (bad':Bool) (items:List XIt),vs= .slice ao items.length cap∧items.length≤100∧But (· =b) w wr∧XrB wr b s j bad' (.slice a0 SC.length cap0) (.slice a1 ng cap1) v2∧ItB wr w.heap.size (.slice ao items.length cap) items∧Hid (bad'=true∨(WfC SC∧TcV w base (.slice a0 SC.length cap0) (SC.map toX)))∧Hid (ji s SC ng nl R mm items j bad'))
 case atStart=>exact⟨_,1,j1,a8,[x],rfl,by simp,e2,g4,World.ownsRow.mono e5 e9,g1,g0⟩
 case round=>
  obtain⟨ao,cap,j,bad',items,rfl,f8,b1,a6,d6,f0,c6⟩:=hrel;have h3:=b1.size;have h9:=a6.lt
  by_cases hlt:items.length<100
  ·have h0:(items.length:Int)<100:=by omega
   by_cases hgo:bad'=false∧pk s j≠46
   ·obtain⟨rfl,e8⟩:=hgo;have b5:(!false&& !decide (pk s j=46))=true:=by simp[e8]
    have a2:=cJ b s j false _ _ _ wr 46 a6;rw[b5]at a2;have e0:=hid a2;have f1:=hid (fun x j' bad'=>c6.out.next hlt e8 (x:=x) (j':=j') (bad':=bad'));clear b5 a2 e8 c6;go_wp2_with fail;refine e0.out.mono ?_;rintro en w3 ⟨rfl,k,rfl⟩;go_wp2_with fail;refine(a7.out (wr.drewN k) j false (b1.trans (But.drewN _ _ _)) f0.out (a6.drewN k)).mono ?_;rintro en w4 ⟨g3,y,j4,a3,rfl,g5,f5⟩;obtain⟨m',i2,f4⟩:=f1.out y j4 a3 f5;have f9:=hid f4
    have g2:Hid (a3=true∨(WfC SC∧TcV w base (.slice a0 SC.length cap0) (SC.map toX))):=by
     refine hid (Or.inr ?_);rcases f0.out with h|h
     ·cases h
     ·exact h
    have a4:But (· =b) wr w4:=(But.drewN _ _ _).trans g3;have b2:But (· =b) w w4:=b1.trans a4;have b4:w4.ownsRow w.heap.size 219 5 (.slice ao items.length cap) items.length (bF items):=ag d6 a4 (fun g hg h=>by have:=aA d6 g hg;omega);have b3:=aA b4;have i3:=b2.size;have i4:=a4.size;clear f5 f4 f1;unfold itV;go_wp2_with (at_builtin;refine wpList_append_lies _ rfl _ _ _ rfl w.heap.size 219 i0 _ 5 48 (by kernel_rfl) g7 h4 h5 h6 rfl (by omega) _ items.length (bF items) rfl ((b4.alloc _).alloc _) ⟨w4.heap.size+1,0,none⟩ 1 1 [.int .i64 y.place,.int .u8 y.op.toNat,.int .u8 y.cls.toNat,.int .i64 y.num,.slice y.pa y.pn y.pc] rfl rfl (World.news_of_block (cs:=#[.int .i64 y.place,.int .u8 y.op.toNat,.int .u8 y.cls.toNat,.int .i64 y.num,.slice y.pa y.pn y.pc]) (t:=219) (fr:=(0,0)) (aq (by simp) _)) (by simp[Value.oneCell']) (by omega) (by unfold maxLen;omega) (by omega) (by simp;omega) (w4.heap.size+2) (by simp) ?_)
    intro gg b0 w5 b9 b6 h8 h1;have f7:But (fun k'=>(Value.slice ao items.length cap).ownBlock=some k') w4 w5:=((But.alloc _ _ _).trans (But.alloc _ _ _)).trans (bc b6);have e3:But (· =b) w w5:=b2.next f7 (fun k' hk' h=>absurd (b3 k' h) (by omega));have g6:=g5.but f7 (fun h=>by have:=b3 _ h;omega)
    have e6:ItB w5 w.heap.size (.slice (some ⟨gg,0,none⟩) (items++ [y]).length b0) (items++ [y]):=by
     unfold ItB;rw[List.length_append,eK];exact b9
    go_wp2_with fail
    go_roundg m'
    case measure=>omega
    case rel=>exact⟨_,b0,j4,a3,items++ [y],by simp,by simp;omega,e3,g6,e6,g2,f9⟩
   ·have b5:(!bad'&& !decide (pk s j=46))=false:=by
     cases bad' with
     |true=>rfl
     |false=>
      by_cases h:pk s j=46
      ·simp[h]
      ·exact absurd ⟨rfl,h⟩ hgo
    have hx:bad'=true∨ ¬items.length<100∨pk s j=46:=by
     cases bad' with
     |true=>exact Or.inl rfl
     |false=>
      right;right
      by_cases h:pk s j=46
      ·exact h
      ·exact absurd ⟨rfl,h⟩ hgo
    have HX:=hid hx;have a2:=cJ b s j bad' _ _ _ wr 46 a6;rw[b5]at a2;have e0:=hid a2;clear b5 a2 hx hgo;go_wp2_with fail;refine e0.out.mono ?_;rintro en w3 ⟨rfl,k,rfl⟩;go_wp2_with fail;exact b8 (.slice ao items.length cap) Tryz.results101 rfl rfl ⟨b1.trans (But.drewN _ _ _),⟨ao,cap,items,j,bad',_,rfl,a6.drewN k,ag d6 (But.drewN (fun _=>False) _ _) (fun _ _ h=>h),f8,c6.out,HX.out⟩⟩
  ·have h0: ¬(items.length:Int)<100:=by omega
   go_wp2_with fail;exact b8 (.slice ao items.length cap) Tryz.results101 rfl rfl ⟨b1,⟨ao,cap,items,j,bad',_,rfl,a6,d6,f8,c6.out,Or.inr (Or.inl hlt)⟩⟩
theorem sc (s:ByteArray) (w:World):
  Calls Tryz.prog 97 #[.string s] w fun en w'=>en= .returned (.pointer (some ⟨w.heap.size,0,none⟩))∧But (fun _=>False) w w'∧w.heap.size<w'.heap.size∧XrB w' w.heap.size s 0 false (.slice none 0 0) (.slice none 0 0) ⟨.slice none 0 0,.int .u8 0,.int .i64 0,.int .u8 0,.slice none 0 0,.slice none 0 0,false⟩:=by
 go_in
 go_wp2
 go_ret;exact⟨rfl,But.alloc _ _ _,by simp,heap_alloc_new _ _⟩
def Cq (s:ByteArray) (nc:Nat) (gs:List Sig) (BS:List Bod) (i:Nat) (a0:Option Addr) (cap0:Nat) (v1:Value) (a2:Option Addr) (n cap2 b base:Nat) (w':World):Prop:=
 ∃(c:UInt8) (m:Nat) (r:UInt8) (ao:Option Addr) (cap:Nat) (l:List UInt8) (j:Nat) (bad':Bool),XrB w' b s j bad' (.slice a0 nc cap0) v1 ⟨.slice a2 n cap2,.int .u8 (UInt8.toNat c),.int .i64 m,.int .u8 (UInt8.toNat r),.slice ao (List.length l) cap,.slice none 0 0,false⟩∧BtB w' base (.slice ao l.length cap) l∧l.length≤5∧
   ((bad'=false∧ ∃x t,eO s nc gs BS i= .ok ((x,m,t),j)∧c=UInt8.ofNat (65+x)∧x<nc∧m<gs.length∧r=(cN gs m).ret∧l=c::(cN gs m).arg::t)∨(bad'=true∧eO s nc gs BS i= .error j))
def Cr (s:ByteArray) (nc i:Nat) (bad:Bool) (a0:Option Addr) (cap0:Nat) (v1:Value) (a2:Option Addr) (n cap2 b base:Nat) (w':World):Prop:=
 ∃(ao:Option Addr) (cap:Nat) (l:List UInt8) (j:Nat) (bad':Bool),XrB w' b s j bad' (.slice a0 nc cap0) v1 ⟨.slice a2 n cap2,.int .u8 45,.int .i64 0,.int .u8 105,.slice ao (List.length l) cap,.slice none 0 0,true⟩∧BtB w' base (.slice ao l.length cap) l∧l.length≤3∧
   ((bad'=false∧ej s nc 58 3 i bad= .ok (l,j))∨(bad'=true∧ej s nc 58 3 i bad= .error j))
theorem jH (b:Nat) (s:ByteArray) (i:Nat) (bad:Bool) (v0 v1:Value) (v2:RdV) (w:World) (hR:XrB w b s i bad v0 v1 v2) (hx:v2.main=true∨bad=true):
  Calls Tryz.prog 100 #[.pointer (some ⟨b,0,none⟩)] w fun e w'=>e= .returned (.bool false)∧ ∃m,w'=w.drewN m:=by
 have h4:=hR.c4;have h5:=hR.d5
 cases hm:v2.main with
 |true=>
  rw[hm]at h5
  go_in
  go_wp2_with fail;exact b8 (.bool false) Tryz.results100 rfl rfl ⟨rfl,0,rfl⟩
 |false=>
  rw[hm]at h5;have hb:bad=true:=by rcases hx with h|h;(rw[hm]at h;cases h);exact h
  subst hb
  go_in
  go_wp2_with fail;exact b8 (.bool false) Tryz.results100 rfl rfl ⟨rfl,0,rfl⟩
theorem jI (b base:Nat) (s:ByteArray) (i:Nat) (a0 a2:Option Addr) (nc cap0 n cap2:Nat) (v1 x0 x1 x2 x3 x4:Value) (w:World) (gs:List Sig) (BS:List Bod) (xs:List bz) (hxs:xs.map jo=(BS.map (aN gs)).map jo) (hnc:nc≤4) (hgs:gs.length≤3) (hBS:BS.length≤6) (hsb: ∀b∈BS,(b.cls= -1)∨eV b) (hs:s.size≤2000)
  (hR:XrB w b s i false (.slice a0 nc cap0) v1 ⟨.slice a2 n cap2,x0,x1,x2,x3,x4,false⟩) (hM:TmV w base v1 gs) (hBd:TbV w base (.slice a2 n cap2) xs) (hb:b<base) (hn:n<6) (hp:pk s i≠59):
  Calls Tryz.prog 100 #[.pointer (some ⟨b,0,none⟩)] w fun en w'=>But (· =b) w w'∧en= .returned (.bool true)∧Cq s nc gs BS i a0 cap0 v1 a2 n cap2 b w.heap.size w':=by
 have h2:=hR.c2;have h4:=hR.c4;have h5:=hR.d5;have b5:(n:Int)<6:=by omega
 have b4:=hR.lt;have a3:=cJ b s i false _ _ _ w 59 hR;rw[show(!false&& !decide (pk s i=59))=true from by simp[hp]]at a3;have a4:=hid a3;have a5:=hid (fun k=>wB b base s i a0 nc cap0 v1 ⟨.slice a2 n cap2,x0,x1,x2,x3,x4,false⟩ (w.drewN k) gs BS xs hxs hnc hgs hBS hsb hs (hR.drewN k) (hM.but (But.drewN (fun _=>False) _ _) (fun _ _ _ _ _ _ h=>h)) (hBd.but (But.drewN (fun _=>False) _ _) (fun _ _ _ _ _ _ h=>h)) hb);clear a3 hp hM hBd hsb hBS hn hxs;dsimp only at h2 h5
 go_in
 go_wp2_with fail;refine a4.out.mono ?_;rintro en w1 ⟨rfl,k,rfl⟩;go_wp2_with fail;refine(a5.out k).mono ?_;rintro en w2 ⟨b1,c,m,r,ao,cap,l,j,bad',rfl,a1,a7,b3,a8⟩;have b0:=hid a8;have e0:=a1.d0;have e1:=a1.d1;have e2:=a1.d2;have e3:=a1.d3;have e4:=a1.d4;have g0:=a1.fz 3;have g1:=a1.fz 4;have g2:=a1.fz 5;have g3:=a1.fz 6;have g4:=a1.fz 7;clear a8 h2 h4 h5 a4 a5;unfold hdV;go_wp2_with fail;have b2:=a1.setB (.int .u8 c.toNat) (.int .i64 m) (.int .u8 r.toNat) (.slice ao l.length cap) (.slice none 0 0)
 have a6:But (· =b) w2 (((((w2.setCell ⟨b,3,none⟩ (.int .u8 c.toNat)).setCell ⟨b,4,none⟩ (.int .i64 m)).setCell ⟨b,5,none⟩ (.int .u8 r.toNat)).setCell ⟨b,6,none⟩ (.slice ao l.length cap)).setCell ⟨b,7,none⟩ (.slice none 0 0)):=
  ((((But.setB _ _ _ _).trans (But.setB _ _ _ _)).trans (But.setB _ _ _ _)).trans (But.setB _ _ _ _)).trans (But.setB _ _ _ _)
 exact b8 (.bool true) Tryz.results100 rfl rfl ⟨((But.drewN _ _ _).trans b1).trans a6,rfl,c,m,r,ao,cap,l,j,bad',b2,BtB.but a7 a6 (fun g hg h=>by have:=aA a7 g hg;have:w.heap.size≤g:=this;omega),b3,b0.out⟩
theorem jJ (b:Nat) (s:ByteArray) (i:Nat) (a0 a2:Option Addr) (nc cap0 n cap2:Nat) (v1 x0 x1 x2 x3 x4:Value) (w:World) (hnc:nc≤4) (hs:s.size≤2000)
  (hR:XrB w b s i false (.slice a0 nc cap0) v1 ⟨.slice a2 n cap2,x0,x1,x2,x3,x4,false⟩) (hx: ¬n<6∨pk s i=59):
  Calls Tryz.prog 100 #[.pointer (some ⟨b,0,none⟩)] w fun en w'=>But (· =b) w w'∧en= .returned (.bool true)∧Cr s nc (tkP s 59 i false).1 (tkP s 59 i false).2 a0 cap0 v1 a2 n cap2 b w.heap.size w':=by
 have h2:=hR.c2;have h4:=hR.c4;have h5:=hR.d5;have g5:=hR.fz 10;have e9:=hR.lt;dsimp only at h2 h5;obtain⟨TK,c6⟩: ∃TK,tkP s 59 i false=TK:=⟨_,rfl⟩;rw[c6];obtain⟨j1,a6⟩:=TK;dsimp only;have a5:=hid (fun(wx:World) (h:XrB wx b s i false (.slice a0 nc cap0) v1 ⟨.slice a2 n cap2,x0,x1,x2,x3,x4,true⟩)=>dv b s i false _ _ _ wx 59 (by decide) hs h);rw[c6]at a5;clear c6;have e6:Hid (∀(w1 w2 w3:World),But (· =b) w w1→w.heap.size≤w1.heap.size→True):=hid (fun _ _ _ _ _=>trivial)
 by_cases hnI:(n:Int)<6
 ·have hp:pk s i=59:=by
   rcases hx with h|h
   ·omega
   ·exact h
  have a4:=cJ b s i false _ _ _ w 59 hR;rw[show(!false&& !decide (pk s i=59))=false from by simp[hp]]at a4;have e5:=hid a4;clear a4 hp hx
  go_in
  go_wp2_with fail;refine e5.out.mono ?_;rintro en w1 ⟨rfl,k,rfl⟩;have b2:=(hR.drewN k).setM true;have b0:But (· =b) w ((w.drewN k).setCell ⟨b,10,none⟩ (.bool true)):=(But.drewN _ _ _).trans (But.setB _ _ _ _);have e8:=b0.size;go_wp2_with fail;refine(a5.out _ b2).mono ?_;rintro en w2 ⟨rfl,a7,b6⟩;have e7:=a7.size;have a3:=b0.trans a7;clear h2 h4 h5 g5 e5 a5 b2;go_wp2_with fail;refine(kq b s j1 a6 a0 nc cap0 _ _ w2 hnc hs b6).mono ?_;rintro en w3 ⟨b5,ao,cap,l,j,bad',rfl,a1,b1,d6,b3⟩;have b4:=hid b3;have e0:=a1.d0;have e1:=a1.d1;have e2:=a1.d2;have e3:=a1.d3;have e4:=a1.d4;have g0:=a1.fz 3;have g1:=a1.fz 4
  have g2:=a1.fz 5;have g3:=a1.fz 6;have g4:=a1.fz 7;clear b3;unfold hdV;simp only[show(UInt8.toNat 45)=45 from rfl,show(UInt8.toNat 105)=105 from rfl];go_wp2_with fail;have b9:=a1.setB (.int .u8 45) (.int .i64 0) (.int .u8 105) (.slice ao l.length cap) (.slice none 0 0)
  have a8:But (· =b) w3 (((((w3.setCell ⟨b,3,none⟩ (.int .u8 45)).setCell ⟨b,4,none⟩ (.int .i64 0)).setCell ⟨b,5,none⟩ (.int .u8 105)).setCell ⟨b,6,none⟩ (.slice ao l.length cap)).setCell ⟨b,7,none⟩ (.slice none 0 0)):=
   ((((But.setB _ _ _ _).trans (But.setB _ _ _ _)).trans (But.setB _ _ _ _)).trans (But.setB _ _ _ _)).trans (But.setB _ _ _ _)
  exact b8 (.bool true) Tryz.results100 rfl rfl ⟨(a3.trans b5).trans a8,rfl,ao,cap,l,j,bad',b9,BtB.but (World.ownsRow.mono b1 (by omega)) a8 (fun g hg h=>by have:=aA b1 g hg;omega),d6,b4.out⟩
 ·clear hx;have b2:=hR.setM true;have b0:But (· =b) w (w.setCell ⟨b,10,none⟩ (.bool true)):=But.setB _ _ _ _;have e8:=b0.size
  go_in
  go_wp2_with fail;refine(a5.out _ b2).mono ?_;rintro en w2 ⟨rfl,a7,b6⟩;have e7:=a7.size;have a3:=b0.trans a7;clear h2 h4 h5 g5 a5 b2;go_wp2_with fail;refine(kq b s j1 a6 a0 nc cap0 _ _ w2 hnc hs b6).mono ?_;rintro en w3 ⟨b5,ao,cap,l,j,bad',rfl,a1,b1,d6,b3⟩;have b4:=hid b3;have e0:=a1.d0;have e1:=a1.d1;have e2:=a1.d2;have e3:=a1.d3;have e4:=a1.d4;have g0:=a1.fz 3;have g1:=a1.fz 4;have g2:=a1.fz 5;have g3:=a1.fz 6;have g4:=a1.fz 7;clear b3;unfold hdV;simp only[show(UInt8.toNat 45)=45 from rfl,show(UInt8.toNat 105)=105 from rfl];go_wp2_with fail;have b9:=a1.setB (.int .u8 45) (.int .i64 0) (.int .u8 105) (.slice ao l.length cap) (.slice none 0 0)
  have a8:But (· =b) w3 (((((w3.setCell ⟨b,3,none⟩ (.int .u8 45)).setCell ⟨b,4,none⟩ (.int .i64 0)).setCell ⟨b,5,none⟩ (.int .u8 105)).setCell ⟨b,6,none⟩ (.slice ao l.length cap)).setCell ⟨b,7,none⟩ (.slice none 0 0)):=
   ((((But.setB _ _ _ _).trans (But.setB _ _ _ _)).trans (But.setB _ _ _ _)).trans (But.setB _ _ _ _)).trans (But.setB _ _ _ _)
  exact b8 (.bool true) Tryz.results100 rfl rfl ⟨(a3.trans b5).trans a8,rfl,ao,cap,l,j,bad',b9,BtB.but (World.ownsRow.mono b1 (by omega)) a8 (fun g hg h=>by have:=aA b1 g hg;omega),d6,b4.out⟩
def Bq (s:ByteArray) (i:Nat) (bad:Bool) (b:Nat) (w:World) (en:Ending) (w':World):Prop:=
 ((bad||decide (i<s.size))=true∧ ∃g,w.heap.size≤g∧en= .returned (.tuple #[.pointer (some ⟨g,0,none⟩),.int .i64 i])∧w'.heap[g]?=some (.cells #[.slice none 0 0,.slice none 0 0,.slice none 0 0] 109))∨
    ((bad||decide (i<s.size))=false∧en= .returned (.tuple #[.pointer (some ⟨b,0,none⟩),.int .i64 (-1)]))
theorem my (b:Nat) (s:ByteArray) (i:Nat) (bad:Bool) (v0 v1:Value) (v2:RdV) (w:World) (hR:XrB w b s i bad v0 v1 v2):
  Calls Tryz.prog 103 #[.pointer (some ⟨b,0,none⟩)] w fun en w'=>But (fun _=>False) w w'∧Bq s i bad b w en w':=by
 have p3:=hR.c3;have p4:=hR.c4;have p5:=hR.c5;have a7:=hR.lt
 cases bad with
 |true=>
   go_in
   go_wp2
   go_quiet (fail)
   go_wp2_with fail;have a3:=hR.drewN nq;have a2:But (fun _=>False) w (w.drewN nq):=But.drewN _ _ _;have a4:w.heap.size≤(w.drewN nq).heap.size:=a2.size;revert a3 a2 a4;generalize (w.drewN nq)=V;intro a3 a2 a4;have p6:=a3.c3;have a0:=a3.lt;clear p3 p4 p5 hR;have a1:But (fun _=>False) V V.drew:=But.drew _ _;refine cB (But (fun _=>False) V) 7 (by kernel_rfl) ?_;refine aB (k:=2) (v:= ?vA2) rfl (by decide) (by kernel_rfl) (fun _ _ _ h=>h) rfl a1 ?yA2 ?rA2
   case yA2=>intro wS h;have q0:=(h.kc p6 a0);clear h;go_simp;try rfl
   dsimp only[Act.put]
   try simp only[aL]
   refine aB (k:=3) (v:= ?vA3) rfl (by decide) (by kernel_rfl) (fun _ _ _ h=>h) rfl a1 ?yA3 ?rA3
   case yA3=>intro wS h;have q0:=(h.kc p6 a0);clear h;go_simp;try rfl
   dsimp only[Act.put]
   try simp only[aL]
   refine aB (k:=4) (v:= ?vA4) rfl (by decide) (by kernel_rfl) (fun _ _ _ h=>h) rfl a1 ?yA4 ?rA4
   case yA4=>intro wS h;have q0:=(h.kc p6 a0);clear h;go_simp;try rfl
   dsimp only[Act.put]
   try simp only[aL]
   refine aB (k:=5) (v:= ?vA5) rfl (by decide) (by kernel_rfl) (fun _ _ _ h=>h) rfl a1 ?yA5 ?rA5
   case yA5=>intro wS h;have q0:=(h.kc p6 a0);clear h;go_simp;try rfl
   dsimp only[Act.put]
   try simp only[aL]
   refine aB (k:=0) (v:= ?vA0) rfl (by decide) (by kernel_rfl) (fun _ _ _ h=>h) rfl a1 ?yA0 ?rA0
   case yA0=>intro wS h;have q0:=(h.kc p6 a0);clear h;go_simp;try rfl
   dsimp only[Act.put]
   try simp only[aL]
   refine aE (k:=1) rfl (by decide) (by kernel_rfl) ?_;intro KS hKS;go_simp;refine hKS.out _ _ (fun _=>a1.trans (But.alloc _ _ _)) ?_;clear hKS KS;refine aE (k:=6) rfl (by decide) (by kernel_rfl) ?_;intro KS hKS;go_simp;refine hKS.out _ _ (fun _=>a1.trans (But.alloc _ _ _)) ?_;clear hKS KS;refine aE (k:=7) rfl (by decide) (by kernel_rfl) ?_;intro KS hKS;go_simp;refine hKS.out _ _ nofun ?_;clear hKS KS;refine ck rfl (by kernel_rfl) ?_;have a5:But (fun _=>False) V (V.drew.alloc (.cells #[.slice none 0 0,.slice none 0 0,.slice none 0 0] 109)):=(But.drew _ _).trans (But.alloc _ _ _);have a6:=heap_alloc_new V.drew (.cells #[.slice none 0 0,.slice none 0 0,.slice none 0 0] 109)
   go_wp2_with fail;exact bodyPost_ret (v:= .tuple #[.pointer (some ⟨V.heap.size,0,none⟩),.int .i64 i]) (by simp[results,Tryz.results103,go_sem]) rfl ⟨a2.trans a5,Or.inl ⟨rfl,V.heap.size,a4,rfl,a6⟩⟩
 |false=>
  by_cases hi:(i:Int)<(s.size:Int)
  ·have HI:Hid ((false||decide (i<s.size))=true):=hid (by simp;omega)
   go_in
   go_wp2
   go_quiet (fail)
   go_wp2_with fail;have a3:=hR.drewN nq;have a2:But (fun _=>False) w (w.drewN nq):=But.drewN _ _ _;have a4:w.heap.size≤(w.drewN nq).heap.size:=a2.size;revert a3 a2 a4;generalize (w.drewN nq)=V;intro a3 a2 a4;have p6:=a3.c3;have a0:=a3.lt;clear p3 p4 p5 hR;have a1:But (fun _=>False) V V.drew:=But.drew _ _;refine cB (But (fun _=>False) V) 7 (by kernel_rfl) ?_;refine aB (k:=2) (v:= ?vB2) rfl (by decide) (by kernel_rfl) (fun _ _ _ h=>h) rfl a1 ?yB2 ?rB2
   case yB2=>intro wS h;have q0:=(h.kc p6 a0);clear h;go_simp;try rfl
   dsimp only[Act.put]
   try simp only[aL]
   refine aB (k:=3) (v:= ?vB3) rfl (by decide) (by kernel_rfl) (fun _ _ _ h=>h) rfl a1 ?yB3 ?rB3
   case yB3=>intro wS h;have q0:=(h.kc p6 a0);clear h;go_simp;try rfl
   dsimp only[Act.put]
   try simp only[aL]
   refine aB (k:=4) (v:= ?vB4) rfl (by decide) (by kernel_rfl) (fun _ _ _ h=>h) rfl a1 ?yB4 ?rB4
   case yB4=>intro wS h;have q0:=(h.kc p6 a0);clear h;go_simp;try rfl
   dsimp only[Act.put]
   try simp only[aL]
   refine aB (k:=5) (v:= ?vB5) rfl (by decide) (by kernel_rfl) (fun _ _ _ h=>h) rfl a1 ?yB5 ?rB5
   case yB5=>intro wS h;have q0:=(h.kc p6 a0);clear h;go_simp;try rfl
   dsimp only[Act.put]
   try simp only[aL]
   refine aB (k:=0) (v:= ?vB0) rfl (by decide) (by kernel_rfl) (fun _ _ _ h=>h) rfl a1 ?yB0 ?rB0
   case yB0=>intro wS h;have q0:=(h.kc p6 a0);clear h;go_simp;try rfl
   dsimp only[Act.put]
   try simp only[aL]
   refine aE (k:=1) rfl (by decide) (by kernel_rfl) ?_;intro KS hKS;go_simp;refine hKS.out _ _ (fun _=>a1.trans (But.alloc _ _ _)) ?_;clear hKS KS;refine aE (k:=6) rfl (by decide) (by kernel_rfl) ?_;intro KS hKS;go_simp;refine hKS.out _ _ (fun _=>a1.trans (But.alloc _ _ _)) ?_;clear hKS KS;refine aE (k:=7) rfl (by decide) (by kernel_rfl) ?_;intro KS hKS;go_simp;refine hKS.out _ _ nofun ?_;clear hKS KS;refine ck rfl (by kernel_rfl) ?_;have a5:But (fun _=>False) V (V.drew.alloc (.cells #[.slice none 0 0,.slice none 0 0,.slice none 0 0] 109)):=(But.drew _ _).trans (But.alloc _ _ _);have a6:=heap_alloc_new V.drew (.cells #[.slice none 0 0,.slice none 0 0,.slice none 0 0] 109)
   go_wp2_with fail;exact bodyPost_ret (v:= .tuple #[.pointer (some ⟨V.heap.size,0,none⟩),.int .i64 i]) (by simp[results,Tryz.results103,go_sem]) rfl ⟨a2.trans a5,Or.inl ⟨HI.out,V.heap.size,a4,rfl,a6⟩⟩
  ·have HI:Hid ((false||decide (i<s.size))=false):=hid (by simp;omega)
   go_in
   go_wp2
   go_quiet (fail)
   go_wp2_with fail;exact bodyPost_ret (v:= .tuple #[.pointer (some ⟨b,0,none⟩),.int .i64 (-1)]) (by simp[results,Tryz.results103,go_sem]) rfl ⟨But.drewN _ _ _,Or.inr ⟨HI.out,rfl⟩⟩
def ud (Gd:Prop) (s:ByteArray) (cs:List Cls) (gs:List Sig) (R:Except Nat (List Bod×Nat)) (mm:Nat) (bs:List bz) (j:Nat) (bad:Bool):Prop:=
 (bad=false∧Gd∧ ∃BS,bs=BS.map (aN gs)∧(∀b∈BS,eV b)∧BS.length+mm=6∧kg s cs gs mm BS j=R)∨(bad=true∧R= .error j)
section
variable {Gd:Prop} {s:ByteArray} {cs:List Cls} {gs:List Sig} {R:Except Nat (List Bod×Nat)}
theorem wF {k:Nat} {BS:List Bod} {i:Nat} (h:(pk s i).toNat≠59):kg s cs gs (k+1) BS i=match eO s cs.length gs BS i with
  | .error j=> .error j
  | .ok ((x,m,t),p)=>
   match fR s cs gs.length (t.length+2) 100 [] p with
   | .error q=> .error q
   | .ok (is,q)=>kg s cs gs k (BS++ [⟨x,m,UInt8.ofNat (65+x)::kk gs m::t,is⟩]) q:=by
 unfold eO;rw[kg,if_neg h]
 cases hU s cs.length i with
 |error j=>rfl
 |ok y=>
  obtain⟨x,j⟩:=y;simp only
  cases eY s gs.length j with
  |error l=>rfl
  |ok z=>
   obtain⟨m,l⟩:=z;simp only
   split
   ·rfl
   ·cases tys s cs.length 58 3 [] l with
    |error p=>rfl
    |ok t=>
     obtain⟨t,p⟩:=t;simp only
     cases fR s cs gs.length (t.length+2) 100 [] p<;>rfl
theorem ud.fin {mm:Nat} {bs:List bz} {j:Nat} {bad:Bool} (h:ud Gd s cs gs R mm bs j bad) (hx: ¬bs.length<6∨(!bad&& !decide (pk s j=59))=false):
  ((tkP s 59 j bad).2=false∧Gd∧ ∃BS,R= .ok (BS,(tkP s 59 j bad).1)∧bs=BS.map (aN gs)∧ ∀b∈BS,eV b)∨((tkP s 59 j bad).2=true∧R= .error (tkP s 59 j bad).1):=by
 rcases h with⟨rfl,hG,BS,h1,h2,h3,h4⟩ | ⟨rfl,h2⟩
 ·by_cases hp:pk s j=59
  ·left
   rw[kI hp];refine⟨rfl,hG,BS,?_,h1,h2⟩;rw[←h4]
   cases mm<;>simp[kg,hp]
  ·right
   rw[ea (Or.inr hp)];refine⟨rfl,?_⟩
   have hm:mm=0:=by
    rcases hx with h|h
    ·rw[h1,List.length_map]at h;omega
    ·simp[hp]at h
   subst hm;rw[←h4];have:(pk s j).toNat≠59:=fun h=>hp ((u8n (by decide)).1 h)
   simp[kg,this]
 ·right
  rw[ea (Or.inl rfl)];exact⟨rfl,h2⟩
theorem pA {m:Nat} (h:m<gs.length):(cN gs m).arg=kk gs m:=by
 unfold cN kk;rw[List.getElem?_eq_getElem h]
 rfl
theorem ud.next {mm:Nat} {bs:List bz} {j:Nat} (h:ud Gd s cs gs R mm bs j false) (hnc:cs.length≤4) (hl:bs.length<6) (hp:pk s j≠59):
  Gd∧ ∃BS,bs=BS.map (aN gs)∧(∀b∈BS,eV b)∧BS.length≤6∧ ∀c m r l j1 a0,((a0=false∧ ∃x t,eO s cs.length gs BS j= .ok ((x,m,t),j1)∧c=UInt8.ofNat (65+x)∧x<cs.length∧m<gs.length∧r=(cN gs m).ret∧l=c::(cN gs m).arg::t)∨(a0=true∧eO s cs.length gs BS j= .error j1))→
   ∀X j2 a1,((a1=false∧ ∃is,fE s cs gs.length l.length j1 a0= .ok (is,j2)∧X=⟨c,m,r,l,is.map aK⟩)∨(a1=true∧fE s cs gs.length l.length j1 a0= .error j2))→
   ∃m',m'<mm∧ud Gd s cs gs R m' (bs++ [X]) j2 a1:=by
 rcases h with⟨_,hG,BS,h1,h2,h3,h4⟩ | ⟨h,_⟩
 ·have a4:BS.length<6:=by rw[h1,List.length_map]at hl;exact hl
  refine⟨hG,BS,h1,h2,by omega,?_⟩;intro c m r l j1 a0 hh X j2 a1 hc;obtain⟨f,rfl⟩: ∃f,mm=f+1:=⟨mm-1,by omega⟩;have a2:(pk s j).toNat≠59:=fun h=>hp ((u8n (by decide)).1 h)
  rw[wF a2]at h4;rcases hh with⟨rfl,x,t,e1,e2,e3,e4,e5,e6⟩ | ⟨rfl,e1⟩
  ·rw[e1]at h4;simp only at h4;unfold fE at hc;simp only[Bool.false_eq_true,if_false]at hc;rw[show l.length=t.length+2 from by rw[e6];rfl]at hc;rcases hc with⟨rfl,is,c1,c2⟩ | ⟨rfl,c1⟩
   ·rw[c1]at h4;refine⟨f,by omega,Or.inl ⟨rfl,hG,BS++ [⟨x,m,UInt8.ofNat (65+x)::kk gs m::t,is⟩],?_,?_,by simp;omega,h4⟩⟩
    ·rw[h1,List.map_append,c2];simp only[List.map_cons,List.map_nil,aN]
     congr 2
     rw[e6,e5,e2,pA e4];have a3: ¬((x:Int)<0):=by omega
     simp[a3]
    ·intro b hb;rcases List.mem_append.1 hb with hb|hb
     ·exact h2 b hb
     ·simp at hb;subst hb;exact⟨by simp,by simp;omega,by simp⟩
   ·rw[c1]at h4;exact⟨0,by omega,Or.inr ⟨rfl,h4.symm⟩⟩
  ·rw[e1]at h4;simp only at h4;unfold fE at hc;simp only[if_true]at hc;rcases hc with⟨_,is,c1,_⟩ | ⟨rfl,c1⟩
   ·cases c1
   ·cases c1
    exact⟨0,by omega,Or.inr ⟨rfl,h4.symm⟩⟩
 ·cases h
end
structure dk (w:World) (b:Nat) (im:Img):Prop where
 cls:TxC w b (im.classes.map toX)
 met:TxM w b im.sigs
 bod:TxB w b (im.bodies.map (aN im.sigs))
theorem yz {s:ByteArray} {SC:List Cls} {n:Nat} {ms:List Sig} {cs:List bA} {bs:List bz} {l:List UInt8} {X:bz} {j0 j1 j2 j3 j4:Nat} {b0 b1 b2 b3 b4:Bool} {R:Except Nat (List Bod×Nat)}
  (hcls:(b0=false∧ ∃SC',eZ s 4 [] 0= .ok (SC',j0)∧SC'=SC∧cs=SC.map toX∧WfC SC)∨(b0=true∧eZ s 4 [] 0= .error j0)) (hn:SC.length=n)
  (hsig:(b1=false∧lm s n j0 b0= .ok (ms,j1))∨(b1=true∧lm s n j0 b0= .error j1))
  (hR:(if b1=true then .error j1 else kg s SC ms 6 [] j1)=R)
  (hbod:(b2=false∧(b1=false)∧ ∃BS,R= .ok (BS,j2)∧bs=BS.map (aN ms)∧ ∀b∈BS,eV b)∨(b2=true∧R= .error j2))
  (hmain:(b3=false∧ej s n 58 3 j2 b2= .ok (l,j3))∨(b3=true∧ej s n 58 3 j2 b2= .error j3))
  (hcode:(b4=false∧ ∃is,fE s SC ms.length l.length j3 b3= .ok (is,j4)∧X=⟨45,0,105,l,is.map aK⟩)∨(b4=true∧fE s SC ms.length l.length j3 b3= .error j4)):
  ((b4||decide (j4<s.size))=true∧fS s= .error j4)∨((b4||decide (j4<s.size))=false∧ ∃im,fS s= .ok im∧im.classes=SC∧cs=SC.map toX∧im.sigs=ms∧bs++ [X]=im.bodies.map (aN ms)):=by
 unfold fS;rcases hcls with⟨rfl,SC',hc,rfl,a3,a4⟩ | ⟨rfl,hc⟩
 ·rw[hc];simp only;unfold lm at hsig;simp only[Bool.false_eq_true,if_false]at hsig;rw[hn];rcases hsig with⟨rfl,a1⟩ | ⟨rfl,a1⟩
  ·rw[a1];simp only;simp only[Bool.false_eq_true,if_false]at hR;rw[hR];rcases hbod with⟨rfl,_,BS,hb,a2,_⟩ | ⟨rfl,hb⟩
   ·rw[hb];simp only;unfold ej at hmain;simp only[Bool.false_eq_true,if_false]at hmain;rcases hmain with⟨rfl,hm⟩ | ⟨rfl,hm⟩
    ·rw[hm];simp only;unfold fE at hcode;simp only[Bool.false_eq_true,if_false]at hcode;rcases hcode with⟨rfl,is,a0,hX⟩ | ⟨rfl,a0⟩
     ·rw[a0];simp only
      by_cases hlt:j4<s.size
      ·left
       rw[if_pos hlt];exact⟨by simp[hlt],rfl⟩
      ·right
       rw[if_neg hlt];refine⟨by simp[hlt],_,rfl,rfl,a3,rfl,?_⟩;rw[a2,hX,List.map_append]
       rfl
     ·rw[a0];exact Or.inl ⟨rfl,rfl⟩
    ·rw[hm];unfold fE at hcode;simp only[if_true]at hcode;rcases hcode with⟨_,is,a0,_⟩ | ⟨rfl,a0⟩
     ·cases a0
     ·cases a0
      exact Or.inl ⟨rfl,rfl⟩
   ·rw[hb];unfold ej at hmain;simp only[if_true]at hmain;rcases hmain with⟨_,hm⟩ | ⟨rfl,hm⟩
    ·cases hm
    ·cases hm
     unfold fE at hcode;simp only[if_true]at hcode;rcases hcode with⟨_,is,a0,_⟩ | ⟨rfl,a0⟩
     ·cases a0
     ·cases a0
      exact Or.inl ⟨rfl,rfl⟩
  ·rw[a1];simp only[if_true]at hR;subst hR;rcases hbod with⟨_,h,_⟩ | ⟨rfl,hb⟩
   ·cases h
   ·cases hb
    unfold ej at hmain;simp only[if_true]at hmain;rcases hmain with⟨_,hm⟩ | ⟨rfl,hm⟩
    ·cases hm
    ·cases hm
     unfold fE at hcode;simp only[if_true]at hcode;rcases hcode with⟨_,is,a0,_⟩ | ⟨rfl,a0⟩
     ·cases a0
     ·cases a0
      exact Or.inl ⟨rfl,rfl⟩
 ·rw[hc];unfold lm at hsig;simp only[if_true]at hsig;rcases hsig with⟨_,h⟩ | ⟨rfl,a1⟩
  ·cases h
  ·cases a1
   simp only[if_true]at hR;subst hR;rcases hbod with⟨_,h,_⟩ | ⟨rfl,hb⟩
   ·cases h
   ·cases hb
    unfold ej at hmain;simp only[if_true]at hmain;rcases hmain with⟨_,hm⟩ | ⟨rfl,hm⟩
    ·cases hm
    ·cases hm
     unfold fE at hcode;simp only[if_true]at hcode;rcases hcode with⟨_,is,a0,_⟩ | ⟨rfl,a0⟩
     ·cases a0
     ·cases a0
      exact Or.inl ⟨rfl,rfl⟩
theorem TbV.apart {w:World} {base:Nat} {v:Value} {bs:List bz} (h:TbV w base v bs) {g e:Nat} {cur:Array Value} (hh:w.heap[g]?=some (.cells cur e)) (hne:e≠115): ¬v.ownBlock=some g:=by
 obtain⟨l,h1,_⟩:=h;exact ex h1 hh hne
theorem TbV.ge {w:World} {base:Nat} {v:Value} {bs:List bz} (h:TbV w base v bs): ∀g,v.ownBlock=some g→base≤g:=by
 obtain⟨l,h1,_⟩:=h;exact aA h1
def yA (s:ByteArray) (SC:List Cls) (ms:List Sig) (cs:List bA) (bs:List bz) (j:Nat) (bad:Bool):Prop:=
 ((bad||decide (j<s.size))=true∧fS s= .error j)∨((bad||decide (j<s.size))=false∧ ∃im,fS s= .ok im∧im.classes=SC∧cs=SC.map toX∧im.sigs=ms∧bs=im.bodies.map (aN ms))
theorem wG (s:ByteArray) (w:World) (hs:s.size≤2000):
  Calls Tryz.prog 63 #[.string s] w fun en w'=>But (fun _=>False) w w'∧ ∃g p,en= .returned (.tuple #[.pointer (some ⟨g,0,none⟩),.int .i64 p])∧w.heap.size≤g∧
   ((∃j,fS s= .error j∧p=(j:Int)∧w'.heap[g]?=some (.cells #[.slice none 0 0,.slice none 0 0,.slice none 0 0] 109))∨(p= -1∧ ∃im,fS s= .ok im∧dk w' g im)):=by
 go_in
 go_wp2_with fail;refine(sc s w).mono ?_;rintro en w0 ⟨rfl,o4,t3,p3⟩;have f3:w.heap.size<w.heap.size+1:=by omega
 go_wp2_with fail;refine(iA w.heap.size (w.heap.size+1) s _ _ w0 hs p3 f3 (by omega)).mono ?_;rintro en w1 ⟨rfl,f5,v0,cs,j0,b0,p4,k9,hcl,p6⟩;obtain⟨a0,cap0,s1⟩:=k9.len;subst s1;have t4:=f5.size;have g1:But (fun k=>k=w.heap.size∨w.heap.size+1≤k) w w1:=(o4.mono (fun _ _ h=>h.elim)).trans f5;clear o4 f5 p3;go_wp2_with fail;refine(iB w.heap.size (w.heap.size+1) s j0 b0 a0 cs.length cap0 _ w1 hs hcl p4 f3 (by omega)).mono ?_;rintro en w2 ⟨rfl,h7,v1,ms,j1,b1,p5,p2,n7,n1⟩;obtain⟨a1,cap1,s2⟩:=aw p2;subst s2;have p0:=k9.but h7 (fun g e cur _ _ hg h=>by omega);have t5:=h7.size;have j7:But (fun k=>k=w.heap.size∨w.heap.size+1≤k) w w2:=g1.next h7 (fun _ _ h=>Or.inl h)
 clear h7 p4 k9 g1
 --the classes,if there are any
 obtain⟨SC,i1,f4⟩: ∃SC:List Cls,SC.length=cs.length∧((b0=false∧ ∃SC',eZ s 4 [] 0= .ok (SC',j0)∧SC'=SC∧cs=SC.map toX∧WfC SC)∨(b0=true∧eZ s 4 [] 0= .error j0)):=by
  rcases p6 with⟨h1,SC,h2,h3,h4⟩ |h
  ·exact⟨SC,by rw[h3,List.length_map],Or.inl ⟨h1,SC,h2,rfl,h3,h4⟩⟩
  ·exact⟨List.replicate cs.length ⟨-1,[]⟩,by simp,Or.inr h⟩
 have e6:b1=false→cs=SC.map toX∧WfC SC:=by
  intro h;rcases n1 with⟨_,h2⟩ | ⟨h2,_⟩
  ·rcases f4 with⟨_,_,_,_,h3⟩ | ⟨h3,_⟩
   ·exact h3
   ·rw[h3]at h2;simp[lm]at h2
  ·rw[h]at h2;cases h2
 obtain⟨R,i0⟩: ∃R,(if b1=true then .error j1 else kg s SC ms 6 [] j1)=R:=⟨_,rfl⟩
 have e1:ud (b1=false) s SC ms R 6 [] j1 b1:=by
  cases b1 with
  |true=>exact Or.inr ⟨rfl,i0.symm⟩
  |false=>exact Or.inl ⟨rfl,rfl,[],rfl,by simp,rfl,i0⟩
 have i7:=hid e1;have i3:=hid e6;have e4:=hid (fun bs l X j2 j3 j4 b2 b3 b4=>yz (X:=X) (bs:=bs) (l:=l) (j2:=j2) (j3:=j3) (j4:=j4) (b2:=b2) (b3:=b3) (b4:=b4) f4 i1 n1 i0);have q9:=hid i1;rw[←i1]at p5 p0 hcl;clear e1 e6 p6 n1 f4 i0 i1;go_wp2_with fail
 go_loopg [] 7 (fun mm wr=> ∃(a2:Option Addr) (a7 j:Nat) (bad' mn:Bool) (bs:List bz) (x0 x1 x2 x3 x4:Value),w.heap.size+1≤wr.heap.size∧But (fun k=>k=w.heap.size∨w.heap.size+1≤k) w wr∧XrB wr w.heap.size s j bad' (.slice a0 SC.length cap0) (.slice a1 ms.length cap1) ⟨.slice a2 bs.length a7,x0,x1,x2,x3,x4,mn⟩∧TcV wr (w.heap.size+1) (.slice a0 SC.length cap0) cs∧TmV wr (w.heap.size+1) (.slice a1 ms.length cap1) ms∧TbV wr (w.heap.size+1) (.slice a2 bs.length a7) bs∧Hid ((mn=false∧bs.length≤6∧ ∃m1,mm=m1+1∧ud (b1=false) s SC ms R m1 bs j bad')∨(mn=true∧yA s SC ms cs bs j bad')))
 case atStart=>exact⟨none,0,j1,b1,false,[],_,_,_,_,_,by omega,j7,p5,p0,p2,⟨[],fT _ _ _ _,rfl,by simp⟩,hid (Or.inl ⟨rfl,by simp,6,rfl,i7.out⟩)⟩
 case round=>
  obtain⟨a2,a7,j,bad',mn,bs,x0,x1,x2,x3,x4,t6,k0,f6,l4,h9,i2,h5⟩:=hrel
  by_cases hstop:mn=true∨bad'=true
  ·have g5:yA s SC ms cs bs j bad':=by
    rcases h5.out with⟨h1,_,m1,_,hb⟩ | ⟨_,h⟩
    ·have r4:bad'=true:=by
      rcases hstop with h|h
      ·rw[h1]at h;cases h
      ·exact h
     subst r4;rcases hb with⟨h,_⟩ | ⟨_,h⟩
     ·cases h
     ·have:=e4.out bs [] ⟨0,0,0,[],[]⟩ j j j true true true (Or.inr ⟨rfl,h⟩) (Or.inr ⟨rfl,by simp[ej]⟩) (Or.inr ⟨rfl,by simp[fE]⟩);rcases this with⟨_,h⟩ | ⟨h,_⟩
      ·exact Or.inl ⟨by simp,h⟩
      ·simp at h
    ·exact h
   have HF:=hid g5;have e2:=hid (jH w.heap.size s j bad' _ _ _ wr f6 hstop);clear g5 h5 e4 i7 i3;go_wp2_with fail;refine e2.out.mono ?_;rintro en w3 ⟨rfl,k,rfl⟩;clear e2 hstop;go_wp2_with fail;refine(my w.heap.size s j bad' _ _ _ (wr.drewN k) (f6.drewN k)).mono ?_;rintro en w4 ⟨a8,q0⟩;have c6:But (fun _=>False) w w4:=((k0.next (But.drewN (fun _=>False) wr k) (fun _ _ h=>h.elim)).next a8 (fun _ _ h=>h.elim)).mono (fun k hk h=>by omega);have q5:w.heap.size≤(wr.drewN k).heap.size:=by show w.heap.size≤wr.heap.size;omega
   have h8:But (fun _=>False) wr w4:=(But.drewN _ _ _).trans a8;unfold Bq at q0;rcases q0 with⟨hb,g,hg,rfl,r5⟩ | ⟨hb,rfl⟩
   ·have i6:Hid (fS s= .error j):=by
     rcases HF.out with⟨_,h⟩ | ⟨h,_⟩
     ·exact hid h
     ·rw[hb]at h;cases h
    clear HF;go_wp2_with fail;exact bodyPost_ret (v:= .tuple #[.pointer (some ⟨g,0,none⟩),.int .i64 j]) (by simp[results,Tryz.results63,go_sem]) rfl ⟨c6,g,j,rfl,by omega,Or.inl ⟨j,i6.out,rfl,r5⟩⟩
   ·have r3:=f6.lt
    have i6:Hid (∃im,fS s= .ok im∧dk w4 w.heap.size im):=by
     rcases HF.out with⟨h,_⟩ | ⟨_,im,s0,n4,n5,g6,n6⟩
     ·rw[hb]at h;cases h
     ·have e9:=l4.but h8 (fun _ _ _ _ _ _ h=>h);have g2:=h9.but h8 (fun _ _ _ _ _ _ h=>h);have e5:=i2.but h8 (fun _ _ _ _ _ _ h=>h);have e3:=f6.but h8 (fun h=>h);refine hid ⟨im,s0,?_,?_,?_⟩
      ·rw[n4,←n5];exact e9.tx e3.c0 e3.lt
      ·rw[g6];exact g2.tx e3.c1 e3.lt
      ·rw[g6,←n6];exact e5.tx e3.c2 e3.lt
    clear HF;go_wp2_with fail;exact bodyPost_ret (v:= .tuple #[.pointer (some ⟨w.heap.size,0,none⟩),.int .i64 (-1)]) (by simp[results,Tryz.results63,go_sem]) rfl ⟨c6,w.heap.size,-1,rfl,Nat.le_refl _,Or.inr ⟨rfl,i6.out⟩⟩
  ·have r8:mn=false:=by cases mn;rfl;exact absurd (Or.inl rfl) hstop
   have r2:bad'=false:=by cases bad';rfl;exact absurd (Or.inr rfl) hstop
   subst r8 r2;obtain⟨_,s6,m1,t0,f5⟩:=h5.out.resolve_right (fun h=>by cases h.1);have h0:=hid f5;clear f5;clear hstop h5 i7
   by_cases hgo:bs.length<6∧pk s j≠59
   ·obtain⟨q1,n8⟩:=hgo;obtain⟨hG,BS,o5,q3,r1,q2⟩:=h0.out.next hcl q1 n8;obtain⟨g4,q4⟩:=i3.out hG;have o3:=hid q2;have q7:=hid g4;have r0:=hid q4;have e2:=hid (jI w.heap.size (w.heap.size+1) s j a0 a2 SC.length cap0 bs.length a7 _ x0 x1 x2 x3 x4 wr ms BS (BS.map (aN ms)) rfl hcl n7 r1 (fun b hb=>Or.inr (q3 b hb)) hs f6 h9 (by rw[←o5];exact i2) f3 q1 n8);clear n8 q2 o5 q3 g4 q4 h0;go_wp2_with fail;refine e2.out.mono ?_;rintro en w4 ⟨a8,rfl,i4⟩;obtain⟨c,m,r,al,capl,lo,j4,b6,e3,l6,r6,e5⟩:=i4;clear e2;have e9:=l4.but a8 (fun g e cur _ _ hg h=>by omega);have g2:=h9.but a8 (fun g e cur _ _ hg h=>by omega)
    have f1:=i2.but a8 (fun g e cur _ _ hg h=>by omega);have c6:But (fun k=>k=w.heap.size∨w.heap.size+1≤k) w w4:=k0.next a8 (fun _ _ h=>Or.inl h);have q5:=a8.size;have d6:BtB w4 (w.heap.size+1) (.slice al lo.length capl) lo:=World.ownsRow.mono l6 (by omega);have o2:=hid (o3.out c m r lo j4 b6 e5);clear e5 o3;have g0:=hid (mx w.heap.size (w.heap.size+1) s j4 b6 SC a0 a1 al ms.length lo.length cap0 cap1 capl _ w4 (Or.inr ⟨r0.out,by rw[←q7.out];exact e9⟩) hcl n7 (by omega) hs e3 rfl f3);go_wp2_with fail;refine g0.out.mono ?_;rintro en w5 ⟨b9,i5⟩;obtain⟨ai,capi,items,j5,a5,m5,rfl,m4,l5,n3,g3,g7⟩:=i5
    have f9:=hid (ji.fin g3 g7);have l0:=e9.but b9 (fun g e cur _ _ hg h=>by omega);have m2:=g2.but b9 (fun g e cur _ _ hg h=>by omega);have a4:=f1.but b9 (fun g e cur _ _ hg h=>by omega);have m0:=d6.but b9 (fun g hg h=>by have:=aA d6 g hg;omega);have s3:=b9.size;clear g3 g7 g0;have f8:=hid (fK w.heap.size (w.heap.size+1) w4.heap.size s j5 a5 false _ _ _ a2 a7 bs ⟨c,m,r,lo,items⟩ al ai capl capi w5 (by omega) n3 hs m4 a4 m0 l5 f3 (by omega) (by omega));go_wp2_with fail;refine f8.out.mono ?_;rintro en w6 ⟨rfl,a3,a6,e7,s5,n0,f2⟩;clear f8
    obtain⟨m',s9,o6⟩:=o2.out ⟨c,m,r,lo,items⟩ (tkP s 46 j5 a5).1 (tkP s 46 j5 a5).2 (by
     rcases f9.out with⟨h1,is,h2,h3⟩ |h
     ·exact Or.inl ⟨h1,is,h2,by rw[h3]⟩
     ·exact Or.inr h)
    have q6:=hid o6;have n2:=a4.ge
    have l3:=l0.but a3 (fun g e cur hh he hg h=>by
     rcases h with h|h
     ·omega
     ·exact a4.apart hh (by rcases he with he|he<;>(rw[he];decide)) h)
    have m3:=m2.but a3 (fun g e cur hh he hg h=>by
     rcases h with h|h
     ·omega
     ·exact a4.apart hh (by rw[he];decide) h)
    have e8:But (fun k=>k=w.heap.size∨w.heap.size+1≤k) w w6:=(c6.next b9 (fun _ _ h=>Or.inl h)).next a3 (fun k hk h=>by
     rcases h with h|h
     ·exact Or.inl h
     ·exact Or.inr (n2 k h))
    have s4:=a3.size;clear o6 o2 f9;go_wp2_with fail
    go_roundg (m'+1)
    case measure=>omega
    case rel=>exact⟨a6,e7,_,_,false,bs++ [⟨c,m,r,lo,items⟩],_,_,_,_,_,by omega,e8,n0,l3,m3,f2,hid (Or.inl ⟨rfl,by simp;omega,m',rfl,q6.out⟩)⟩
   ·have e0: ¬bs.length<6∨pk s j=59:=by
     by_cases h6:bs.length<6
     ·right
      by_cases hp:pk s j=59
      ·exact hp
      ·exact absurd ⟨h6,hp⟩ hgo
     ·exact Or.inl h6
    have f7:=hid (h0.out.fin (e0.imp id (fun h=>by simp[h])));have e2:=hid (jJ w.heap.size s j a0 a2 SC.length cap0 bs.length a7 _ x0 x1 x2 x3 x4 wr hcl hs f6 e0);clear e0 hgo h0;obtain⟨TK,p8⟩: ∃TK,tkP s 59 j false=TK:=⟨_,rfl⟩;rw[p8]at f7 e2;obtain⟨j2,b2⟩:=TK;dsimp only at f7 e2;have n9:=hid (fun l X j3 j4 b3 b4=>e4.out bs l X j2 j3 j4 b2 b3 b4 f7.out)
    have o1:Hid (b2=true∨b1=false):=by
     rcases f7.out with⟨_,h,_⟩ | ⟨h,_⟩
     ·exact hid (Or.inr h)
     ·exact hid (Or.inl h)
    clear p8 f7 e4;go_wp2_with fail;refine e2.out.mono ?_;rintro en w4 ⟨a8,rfl,i4⟩;obtain⟨al,capl,lo,j4,b6,e3,l6,r6,e5⟩:=i4;clear e2;have e9:=l4.but a8 (fun g e cur _ _ hg h=>by omega);have g2:=h9.but a8 (fun g e cur _ _ hg h=>by omega);have f1:=i2.but a8 (fun g e cur _ _ hg h=>by omega);have c6:But (fun k=>k=w.heap.size∨w.heap.size+1≤k) w w4:=k0.next a8 (fun _ _ h=>Or.inl h);have q5:=a8.size;have d6:BtB w4 (w.heap.size+1) (.slice al lo.length capl) lo:=World.ownsRow.mono l6 (by omega);have f0:=e5;rw[q9.out]at f0;have o0:=hid (fun X j5 b5=>n9.out lo X j4 j5 b6 b5 f0)
    have p1:b6=true∨(WfC SC∧TcV w4 (w.heap.size+1) (.slice a0 SC.length cap0) (SC.map toX)):=by
     rcases o1.out with h|h
     ·left
      rcases e5 with⟨_,h2⟩ | ⟨h2,_⟩
      ·rw[h]at h2;simp[ej]at h2
      ·exact h2
     ·obtain⟨h1,h2⟩:=i3.out h;exact Or.inr ⟨h2,by rw[←h1];exact e9⟩
    have g0:=hid (mx w.heap.size (w.heap.size+1) s j4 b6 SC a0 a1 al ms.length lo.length cap0 cap1 capl _ w4 p1 hcl n7 (by omega) hs e3 rfl f3);clear e5 f0 n9 o1 p1;go_wp2_with fail;refine g0.out.mono ?_;rintro en w5 ⟨b9,i5⟩;obtain⟨ai,capi,items,j5,a5,m5,rfl,m4,l5,n3,g3,g7⟩:=i5;have f9:=hid (ji.fin g3 g7);have l0:=e9.but b9 (fun g e cur _ _ hg h=>by omega);have m2:=g2.but b9 (fun g e cur _ _ hg h=>by omega);have a4:=f1.but b9 (fun g e cur _ _ hg h=>by omega);have m0:=d6.but b9 (fun g hg h=>by have:=aA d6 g hg;omega);have s3:=b9.size;clear g3 g7 g0;have f8:=hid (fK w.heap.size (w.heap.size+1) w4.heap.size s j5 a5 true _ _ _ a2 a7 bs ⟨45,0,105,lo,items⟩ al ai capl capi w5 (by omega) n3 hs m4 a4 m0 l5 f3 (by omega) (by omega))
    go_wp2_with fail;refine f8.out.mono ?_;rintro en w6 ⟨rfl,a3,a6,e7,s5,n0,f2⟩;clear f8
    have q8:Hid (yA s SC ms cs (bs++ [⟨45,0,105,lo,items⟩]) (tkP s 46 j5 a5).1 (tkP s 46 j5 a5).2):=by
     refine hid (o0.out ⟨45,0,105,lo,items⟩ _ _ ?_);rcases f9.out with⟨h1,is,h2,h3⟩ |h
     ·exact Or.inl ⟨h1,is,h2,by rw[h3]⟩
     ·exact Or.inr h
    have n2:=a4.ge
    have l3:=l0.but a3 (fun g e cur hh he hg h=>by
     rcases h with h|h
     ·omega
     ·exact a4.apart hh (by rcases he with he|he<;>(rw[he];decide)) h)
    have m3:=m2.but a3 (fun g e cur hh he hg h=>by
     rcases h with h|h
     ·omega
     ·exact a4.apart hh (by rw[he];decide) h)
    have e8:But (fun k=>k=w.heap.size∨w.heap.size+1≤k) w w6:=(c6.next b9 (fun _ _ h=>Or.inl h)).next a3 (fun k hk h=>by
     rcases h with h|h
     ·exact Or.inl h
     ·exact Or.inr (n2 k h))
    have s4:=a3.size;clear o0 f9;go_wp2_with fail
    go_roundg 0
    case measure=>omega
    case rel=>exact⟨a6,e7,_,_,true,bs++ [⟨45,0,105,lo,items⟩],_,_,_,_,_,by omega,e8,n0,l3,m3,f2,hid (Or.inr ⟨rfl,q8.out⟩)⟩
end
section
open Go Go.RowKit Sp
theorem Br {cs:List Cls} {gs:List Sig} {b:Bod} (h:WfB cs gs b) (hn:cs.length≤4):(b.cls= -1)∨eV b:=by
 rcases h.cls with⟨h1,_⟩ | ⟨h1,h2,h3,h4⟩
 ·exact Or.inl h1
 ·exact Or.inr ⟨h1,by omega,h3⟩
theorem yB {c:UInt8} {n:Nat} (h:aO n c=true) (hn:n≤4):c=UInt8.ofNat (65+(kl c).toNat):=by
 rw[←nR h hn]
 congr 2
 unfold kl;have:(UInt8.ofNat (65+(c.toNat-65)))=c:=nR h hn;rw[this];omega
theorem yC {n x:Nat} (h:x<n) (hn:n≤4):aO n (UInt8.ofNat (65+x))=true∧kl (UInt8.ofNat (65+x))=x:=by
 have hv:(UInt8.ofNat (65+x)).toNat=65+x:=by simp;omega
 constructor
 ·simp only[aO,hv,Bool.and_eq_true,decide_eq_true_eq];omega
 ·unfold kl;rw[hv];omega
theorem gV {cs:List Cls} {gs:List Sig} {BS:List Bod} (hw:WfC cs) (hn:cs.length≤4) (hB: ∀b∈BS,(b.cls= -1)∨eV b) (m:Nat):
  ∀(f f' x:Nat),x<cs.length→x<f→x<f'→eM (cs.map toX) (BS.map (aN gs)) m f (UInt8.ofNat (65+x))=cE cs BS m f' x:=by
 intro f
 induction f with
 |zero=>intro f' x _ h _;omega
 |succ f ih=>
  intro f' x hx h1 h2;obtain⟨g,rfl⟩: ∃g,f'=g+1:=⟨f'-1,by omega⟩;have hv:(UInt8.ofNat (65+x)).toNat=65+x:=by simp;omega
  have a0:=py (gs:=gs) (m:=m) hB (x:=x) (by omega);rw[eM,if_neg (show¬(UInt8.ofNat (65+x)).toNat=45 by omega),a0,cE,if_neg (show¬(x:Int)<0 by omega)]
  split
  ·rfl
  ·obtain⟨hl,hk⟩:=yC hx hn;have hp:=lj hw hn hl;rw[hk]at hp;have a1:=dh hw (p:=(x:Int)) (by omega);rcases hp with⟨e1,e2⟩ | ⟨e1,e2,e3⟩
   ·rw[e2]
    have e4: ∀k,eM (cs.map toX) (BS.map (aN gs)) m k 45= -1:=by
     intro k
     cases k with
     |zero=>rfl
     |succ k=>rw[eM];simp
    have e5: ∀k,cE cs BS m k (cR cs x)= -1:=by
     intro k
     cases k with
     |zero=>rfl
     |succ k=>rw[cE,if_pos e1]
    rw[e4,e5]
   ·have e6:=yB e2 hn;rw[e3]at e6;rw[e6];have e7:((cR cs x).toNat:Int)=cR cs x:=by omega
    have e8:(cR cs x).toNat<cs.length:=by omega
    have:=ih g (cR cs x).toNat e8 (by omega) (by omega);rw[this,e7]
theorem yD {cs:List Cls} {gs:List Sig} {BS:List Bod} {x:Ins} {nl n:Nat} (hw:WfC cs) (hn:cs.length≤4) (hB: ∀b∈BS,(b.cls= -1)∨eV b) (hx:WfX cs gs.length nl x):eN (cs.map toX) (BS.map (aN gs)) n (aK x)=ky cs BS n x:=by
 unfold eN ky;have e1:(aK x).op=x.op:=rfl;have e2:(aK x).num=x.b:=rfl;rw[e1,e2]
 by_cases h1:x.op.toNat=106∨x.op.toNat=102
 ·rw[if_pos h1];have h9: ¬x.op.toNat=99:=by omega
  rcases h1 with h|h<;>simp[h]
 ·rw[if_neg h1];have a0:=not_or.1 h1
  by_cases h9:x.op.toNat=99
  ·rw[if_pos h9];have ha:=hx.cls (by omega)
   have e3:(aK x).cls=UInt8.ofNat (65+x.a):=by
    unfold aK;rw[if_pos (by omega)]
   rw[e3,List.length_map,gV hw hn hB x.b cs.length 5 x.a ha ha (by omega)];simp[h9]
  ·rw[if_neg h9];simp[h9,a0.1,a0.2]
theorem find?_map' {α β:Type} (f:α→β) (p:β→Bool): ∀l:List α,(l.map f).find? p=(l.find? (fun x=>p (f x))).map f:=by
 intro l
 induction l with
 |nil=>rfl
 |cons x l ih=>
  simp only[List.map_cons,List.find?_cons,ih]
  cases p (f x)<;>rfl
theorem find?_congr' {α:Type} {p q:α→Bool}: ∀{l:List α},(∀x∈l,p x=q x)→l.find? p=l.find? q:=by
 intro l
 induction l with
 |nil=>intro _;rfl
 |cons x l ih=>
  intro h;rw[List.find?_cons,List.find?_cons,h x (by simp),ih (fun y hy=>h y (by simp[hy]))]
theorem findSome?_map' {α β γ:Type} (f:α→β) (p:β→Option γ): ∀l:List α,(l.map f).findSome? p=l.findSome? (fun x=>p (f x)):=by
 intro l
 induction l with
 |nil=>rfl
 |cons x l ih=>simp only[List.map_cons,List.findSome?_cons,ih]
theorem findSome?_congr' {α γ:Type} {p q:α→Option γ}: ∀{l:List α},(∀x∈l,p x=q x)→l.findSome? p=l.findSome? q:=by
 intro l
 induction l with
 |nil=>intro _;rfl
 |cons x l ih=>
  intro h;rw[List.findSome?_cons,List.findSome?_cons,h x (by simp),ih (fun y hy=>h y (by simp[hy]))]
theorem Al {cs:List Cls} {gs:List Sig} {BS:List Bod} {c:List Ins} {nl:Nat} (hw:WfC cs) (hn:cs.length≤4) (hB: ∀b∈BS,(b.cls= -1)∨eV b) (hx: ∀x∈c,WfX cs gs.length nl x):lp (cs.map toX) (BS.map (aN gs)) (c.map aK)=unl cs BS c:=by
 unfold lp unl;rw[List.length_map,find?_map',find?_congr' (fun x hm=>yD hw hn hB (hx x hm)),Option.map_map]
 rfl
theorem yE {im:Img} (hW:WfI im):((im.bodies.map (aN im.sigs)).findSome? fun x=>lp (im.classes.map toX) (im.bodies.map (aN im.sigs)) x.items)=im.bodies.findSome? (fun b=>unl im.classes im.bodies b.code):=by
 rw[findSome?_map'];refine findSome?_congr' (fun b hb=> ?_);exact Al hW.cls hW.nc (fun b hb=>Br (hW.bod b hb) hW.nc) (hW.bod b hb).code
theorem pB (b:Nat) (im:Img) (w:World) (hW:WfI im) (hT:dk w b im):
  Calls Tryz.prog 104 #[.pointer (some ⟨b,0,none⟩)] w fun e w'=>e= .returned (.int .i64 (kJ (im.bodies.findSome? (fun b=>unl im.classes im.bodies b.code))))∧But (fun _=>False) w w':=by
 rw[←yE hW];refine jg b (im.classes.map toX) (im.bodies.map (aN im.sigs)) w (by rw[List.length_map];have:=hW.nc;omega) (by rw[List.length_map];have:=hW.nb;omega) ?_ hT.cls hT.bod;intro x hx;obtain⟨b,hb,rfl⟩:=List.mem_map.1 hx;have:=(hW.bod b hb).len.2;simp only[aN,List.length_map];omega
end
section
open Go Go.RowKit Sp
attribute [local go_sem ↓] Go.wp_at_zero Go.wp_at_succ
theorem ue (b:Nat) (cs:List bA) (ms:List Sig) (p n:Nat) (k ans:UInt8) (w:World) {ap:Option Addr} {np cp:Nat} (hn:cs.length≤100) (hT:TxC w b cs):
  Calls Tryz.prog 140 #[.pointer (some ⟨b,0,none⟩),.agg #[.int .i64 p,.int .u8 112,.int .u8 k.toNat,.int .i64 n,.slice ap np cp],.int .u8 ans.toNat] w fun e w'=>But (fun _=>False) w w'∧ ∃v,e= .returned v∧BtB w' w.heap.size v [k,bM (bI cs k) n]:=by
 go_in
 go_wp2_with fail;have a2:But (fun _=>False) w (w.alloc (.cells #[.int .i64 p,.int .u8 112,.int .u8 k.toNat,.int .i64 n,.slice ap np cp] 219)):=But.alloc _ _ _;have a1:=heap_alloc_new w (.cells #[.int .i64 p,.int .u8 112,.int .u8 k.toNat,.int .i64 n,.slice ap np cp] 219);revert a2 a1;generalize (w.alloc (.cells #[.int .i64 p,.int .u8 112,.int .u8 k.toNat,.int .i64 n,.slice ap np cp] 219))=W;intro a2 a1;obtain⟨k0,k1,k2,k3,k4⟩:=bp a1;have gltW:=ae a1;have a6:=hid a1;clear a1;have a3:But (fun _=>False) W W.drew:=But.drew _ _;have a0:=hid (qr b cs k n W.drew hn ((hT.but a2).but a3));refine aD (But (fun _=>False) W) 9 (by kernel_rfl) ?_
 iterate 7 (refine aJ (v:=?_) rfl (by kernel_rfl) (fun _ _ _ h=>h) rfl a3 ?_ ?_;rotate_left;(focus (intro wS h;have q0:=(h.kc k2 gltW);have q1:=(h.kc k3 gltW);clear h;go_simp;try rfl));dsimp only[Act.put];try simp only[aL])
 refine ah rfl (by kernel_rfl) ?_;intro KS hKS;go_simp;refine a0.out.mono ?_;rintro en wx ⟨rfl,a5⟩;rw[a5];clear a5 wx a0;refine hKS.out _ _ (fun _=>a3) ?_;clear hKS KS;obtain⟨z,a4⟩: ∃z,bM (bI cs k) n=z:=⟨_,rfl⟩;rw[a4];have HZ:=hid a4;clear a4;refine ah rfl (by kernel_rfl) ?_;intro KS hKS;go_simp;refine hKS.out _ _ (fun _=>a3.trans (But.alloc _ _ _)) ?_;clear hKS KS;refine ah rfl (by kernel_rfl) ?_;intro KS hKS;go_simp;refine hKS.out _ _ nofun ?_;clear hKS KS;refine aH rfl (by kernel_rfl) ?_;have hz:=a2.size;go_wp2_with fail;exact b8 (.slice (some ⟨W.heap.size,0,none⟩) 2 2) Tryz.results140 rfl rfl ⟨a2.trans ((But.alloc _ _ _).trans (But.drew _ _)),_,rfl,by rw[HZ.out];exact BtB.but (BtB.lit W w.heap.size hz [k,z] (by simp)) (But.drew (fun _=>False) _) (fun _ _ h=>h)⟩
theorem wH (b:Nat) (cs:List bA) (ms:List Sig) (p n:Nat) (k ans:UInt8) (w:World) {ap:Option Addr} {np cp:Nat} (hm:ms.length≤100) (hM:TxM w b ms):
  Calls Tryz.prog 140 #[.pointer (some ⟨b,0,none⟩),.agg #[.int .i64 p,.int .u8 99,.int .u8 k.toNat,.int .i64 n,.slice ap np cp],.int .u8 ans.toNat] w fun e w'=>But (fun _=>False) w w'∧ ∃v,e= .returned v∧BtB w' w.heap.size v [k,(cN ms n).arg]:=by
 go_in
 go_wp2_with fail;have a2:But (fun _=>False) w (w.alloc (.cells #[.int .i64 p,.int .u8 99,.int .u8 k.toNat,.int .i64 n,.slice ap np cp] 219)):=But.alloc _ _ _;have a1:=heap_alloc_new w (.cells #[.int .i64 p,.int .u8 99,.int .u8 k.toNat,.int .i64 n,.slice ap np cp] 219);revert a2 a1;generalize (w.alloc (.cells #[.int .i64 p,.int .u8 99,.int .u8 k.toNat,.int .i64 n,.slice ap np cp] 219))=W;intro a2 a1;obtain⟨k0,k1,k2,k3,k4⟩:=bp a1;have gltW:=ae a1;have a7:=hid a1;clear a1;have a4:But (fun _=>False) W W.drew:=But.drew _ _;have a0:=hid (fh b ms n W.drew hm ((hM.but a2).but a4));refine aD (But (fun _=>False) W) 8 (by kernel_rfl) ?_
 iterate 5 (refine aJ (v:=?_) rfl (by kernel_rfl) (fun _ _ _ h=>h) rfl a4 ?_ ?_;rotate_left;(focus (intro wS h;have q0:=(h.kc k2 gltW);have q1:=(h.kc k3 gltW);clear h;go_simp;try rfl));dsimp only[Act.put];try simp only[aL])
 refine ah rfl (by kernel_rfl) ?_;intro KS hKS;go_simp;refine a0.out.mono ?_;rintro en wx ⟨rfl,a6⟩;clear a0;have a3:=a4.trans a6;refine hKS.out _ _ (fun _=>a3) ?_;clear hKS KS;obtain⟨z,a5⟩: ∃z,cN ms n=z:=⟨_,rfl⟩;rw[a5];have HZ:=hid a5;clear a5;obtain⟨za,zr⟩:=z;dsimp only;refine ah rfl (by kernel_rfl) ?_;intro KS hKS;go_simp;refine hKS.out _ _ (fun _=>a3) ?_;clear hKS KS;refine ah rfl (by kernel_rfl) ?_;intro KS hKS;go_simp;refine hKS.out _ _ (fun _=>a3.trans (But.alloc _ _ _)) ?_;clear hKS KS;refine ah rfl (by kernel_rfl) ?_;intro KS hKS;go_simp;refine hKS.out _ _ nofun ?_;clear hKS KS;refine aH rfl (by kernel_rfl) ?_
 have hz:=a2.size;go_wp2_with fail;have a8:=a3.size;exact b8 (.slice (some ⟨wx.heap.size,0,none⟩) 2 2) Tryz.results140 rfl rfl ⟨(a2.trans a3).trans (But.alloc _ _ _),_,rfl,by rw[HZ.out];exact BtB.lit wx w.heap.size (by omega) [k,za] (by simp)⟩
theorem kK (b:Nat) (cs:List bA) (ms:List Sig) (p n:Nat) (c k ans:UInt8) (w:World) {ap:Option Addr} {np cp:Nat} (hn:cs.length≤100) (hm:ms.length≤100) (hT:TxC w b cs) (hM:TxM w b ms):
  Calls Tryz.prog 140 #[.pointer (some ⟨b,0,none⟩),.agg #[.int .i64 p,.int .u8 c.toNat,.int .u8 k.toNat,.int .i64 n,.slice ap np cp],.int .u8 ans.toNat] w fun e w'=>But (fun _=>False) w w'∧ ∃v,e= .returned v∧BtB w' w.heap.size v (ay cs ms c k n ans):=by
 by_cases h112:c.toNat=112
 ·have hc:c=112:=UInt8.toNat_inj.1 h112;subst hc;exact ue b cs ms p n k ans w hn hT
 by_cases h99:c.toNat=99
 ·have hc:c=99:=UInt8.toNat_inj.1 h99;subst hc;exact wH b cs ms p n k ans w hm hM
 exact qt b cs ms p n c k ans w h112 h99
theorem fw {w:World} {g t:Nat} {x0 x1 x2:Value} (h:w.heap[g]?=some (.cells #[x0,x1,x2] t)):w.cell? ⟨g,0,none⟩=some x0∧w.cell? ⟨g,1,none⟩=some x1∧w.cell? ⟨g,2,none⟩=some x2:=by
 refine⟨?_,?_,?_⟩
 ·rw[cell_of_row w g 0 _ _ (0,0) h];rfl
 ·rw[cell_of_row w g 1 _ _ (0,0) h];rfl
 ·rw[cell_of_row w g 2 _ _ (0,0) h];rfl
theorem lr {ms:List Sig} {n:Nat} (h:n<ms.length):(cN ms n).arg=ia ms n∧(cN ms n).ret=fm ms n:=by
 unfold cN ia fm;rw[List.getElem?_eq_getElem h];exact⟨rfl,rfl⟩
theorem nV {x:Ins} (h:x.op.toNat=110∨x.op.toNat=120∨x.op.toNat=103∨x.op.toNat=112∨x.op.toNat=99):(aK x).cls=cL x.a:=by unfold aK;rw[if_pos h];rfl
def eX (g:Nat) (im:Img):Value:=match im.bodies.findSome? (fun b=>unl im.classes im.bodies b.code)with
 |some q=> .agg #[.int .i64 3,.int .i64 q,.pointer none,.slice none 0 0]
 |none=> .agg #[.int .i64 0,.int .i64 0,.pointer (some ⟨g,0,none⟩),.slice none 0 0]
theorem pC (g j:Nat) (w:World):
  Calls Tryz.prog 64 #[.pointer (some ⟨g,0,none⟩),.int .i64 j] w fun en w'=>But (fun _=>False) w w'∧en= .returned (.agg #[.int .i64 2,.int .i64 j,.pointer none,.slice none 0 0]):=by
 have a1: ¬(j:Int)= -1:=by omega
 have e1:((j:Int)== -1)=false:=by rw[beq_eq_false_iff_ne];omega
 have e2:((j:Int)!= -1)=true:=by simp[bne,e1]
 go_in
 go_wp2_with fail;have h9:=heap_alloc_new w (.cells #[.int .i64 2,.int .i64 j,.pointer none,.slice none 0 0] 60);have a0:But (fun _=>False) w (w.alloc (.cells #[.int .i64 2,.int .i64 j,.pointer none,.slice none 0 0] 60)):=But.alloc _ _ _;revert h9 a0;generalize (w.alloc (.cells #[.int .i64 2,.int .i64 j,.pointer none,.slice none 0 0] 60))=w9;intro h9 a0;obtain⟨r0,r1,r2,r3⟩:=dS h9;exact bodyPost_ret (v:= .agg #[.int .i64 2,.int .i64 j,.pointer none,.slice none 0 0]) (by simp[results,Tryz.results64,go_sem,r0,r1,r2,r3]) rfl ⟨a0,rfl⟩
end
end Go.Proofs.YtpfkkmacakjmbaaGreatDoor
