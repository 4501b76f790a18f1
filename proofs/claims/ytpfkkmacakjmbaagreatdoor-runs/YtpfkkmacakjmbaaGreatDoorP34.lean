import Derived.Test.YtpfkkmacakjmbaaGreatDoorP33
import Derived.Test.YtpfkkmacakjmbaaGreatDoorP29
set_option maxRecDepth 100000
set_option maxHeartbeats 6400000
set_option linter.unusedSimpArgs false
set_option linter.unusedVariables false
namespace Go.Proofs.YtpfkkmacakjmbaaGreatDoor
section
open Go Go.RowKit Sp
attribute [local go_sem ↓] Go.wp_at_zero Go.wp_at_succ
structure yM (w0 w w':World) (mb tx:Nat) (tv:Value) (bw cells:Nat) (cur:Option Nat) (ans:Int) (d:Nat) (gs:List Sig) (b:Bod) (p:Nat×List St) (fb bl:Nat) (lv vl vi:Value):Prop where
 but:But (· =mb) w w'
 mc:MbB w' mb tx tv bw cells (some fb) ans
 fr:FbB w' fb cur d (aN gs b) vl vi (.slice (some ⟨p.1,0,none⟩) p.2.length p.2.length) 0 bl (.slice none 0 0)
 lb:w'.heap[bl]?=some (.cells #[lv] 280)
 lo:w'.ownsRow w.heap.size 168 2 lv b.locals.length (aA (b.locals.map bN))
 gf:w.heap.size≤fb
 gl:w.heap.size≤bl
 bt:BtB w0 0 vl (aN gs b).locals
 it:ItB w0 0 vi (aN gs b).items
 tb:StB w0 p.1 p.2
section
variable (w0 w:World) (mb tx bw cells d base:Nat) (tv:Value) (ans:Int) (im:Img) (l:List (Nat×List St)) (q:Nat) (b:Bod) (p:Nat×List St)
theorem pe (cur:Option Nat) (hd:(cur=none∧d=0)∨ ∃a4,cur=some a4∧a4<w.heap.size∧w.cell? ⟨a4,1,none⟩=some (.int .i64 d)) (hdd:d≤100) (h:MbB w mb tx tv bw cells cur ans) (h0:But (fun _=>False) w0 w) (hT:dk w0 tx im) (hl:eN w0 base tv l) (hq:im.bodies[q]?=some b) (hp:l[q]?=some p) (hlo:b.locals.length≤5) (hnb:im.bodies.length≤100):
  Calls Tryz.prog 87 #[.pointer (some ⟨mb,0,none⟩),.int .i64 q] w fun en w'=>en= .returned (.tuple #[])∧ ∃fb bl lv vl vi,yM w0 w w' mb tx tv bw cells cur ans (d+1) im.sigs b p fb bl lv vl vi:=by
 obtain⟨v2,t2,b0,lb,hO,hm,hf⟩:=hT.bod;have hX:(im.bodies.map (aN im.sigs))[q]?=some (aN im.sigs b):=by rw[List.getElem?_map,hq];rfl
 rw[←hm,List.getElem?_map]at hX;obtain⟨⟨X,vl,vi⟩,a1,a5⟩:=Option.map_eq_some_iff.1 hX;simp only at a5;have HX:Hid (X=aN im.sigs b):=a5;have b3:X.locals=b.locals:=by rw[a5];rfl
 clear a5;obtain⟨f1,f2⟩:=hf _ (List.mem_of_getElem? a1);simp only at f1 f2;have b9:=hid f1;have e2:=hid f2;obtain⟨al,capl,rfl⟩:=au f1;obtain⟨ai,capi,rfl⟩:=au f2;obtain⟨ao,capo,rfl⟩:=au hO;have f4:q<lb.length:=(List.getElem?_eq_some_iff.1 a1).1;obtain⟨g,rfl,a2,f7,a0⟩:=aG hO (by omega);have q0:=a0 _ _ (cz (k:=0) a1 (by omega));have q1:=a0 _ _ (cz (k:=1) a1 (by omega));have q2:=a0 _ _ (cz (k:=2) a1 (by omega));have q3:=a0 _ _ (cz (k:=3) a1 (by omega));have q4:=a0 _ _ (cz (k:=4) a1 (by omega));simp only[Nat.add_zero,List.getElem?_cons_zero,List.getElem?_cons_succ]at q0 q1 q2 q3 q4;obtain⟨ax,capx,rfl⟩:=au hl.1
 have f5:q<l.length:=(List.getElem?_eq_some_iff.1 hp).1;obtain⟨gx,rfl,b1,g5,b5⟩:=aG hl.1 (by omega);have q5:w0.cell? ⟨gx,q,none⟩=some (.slice (some ⟨p.1,0,none⟩) p.2.length p.2.length):=b5 _ _ (by simp[jD,hp]);have e5:=hid (hl.2 p (List.mem_of_getElem? hp));replace q0:=(h0.cell a2 (fun h=>h)).trans q0;replace q1:=(h0.cell a2 (fun h=>h)).trans q1;replace q2:=(h0.cell a2 (fun h=>h)).trans q2;replace q3:=(h0.cell a2 (fun h=>h)).trans q3;replace q4:=(h0.cell a2 (fun h=>h)).trans q4;replace q5:=h0.kc q5 b1;replace t2:=(h0.cell b0 (fun h=>h)).trans t2;replace a2:=Nat.lt_of_lt_of_le a2 h0.size;replace b1:=Nat.lt_of_lt_of_le b1 h0.size
 replace b0:=Nat.lt_of_lt_of_le b0 h0.size;have e3:=hid (fun Y=>oB X.cls (X.meth:Int) X.ans b.locals al capl ai X.items.length capi Y (by omega));have e0:=h.c0;have e1:=h.c1;have z4:=h.fz 4;have a8:=h.lt;have HM:=hid h;have g1:(0:Int)≤(q:Int):=by omega
 have g2:(q:Int)<(lb.length:Int):=by omega
 have g3:(q:Int)<(l.length:Int):=by omega
 have a6:lb.length=im.bodies.length:=by have:=congrArg List.length hm;simpa using this
 rw[b3]at q3;clear a6;have e4:=h.c4;have HD:=hid hd;clear hd;clear hX a1 f1 f2 a0 b5 hf hO hm hq f4 hT h hl hp f5;generalize b4:b.locals.length=nL at*;generalize g0:X.items.length=nI at*;generalize lb.length=nb at*;generalize l.length=nx at*;have g4:=bH ((d:Int)+1) (by omega) (by omega);rcases HD.out with⟨rfl,rfl⟩ | ⟨a4,rfl,f8,c1⟩
 all_goals
  simp only[iH,Option.map_none,Option.map_some]at e4
  go_in
  go_wp2_with fail;refine(e3.out _).mono ?_;rintro en w1 ⟨bl,lv,rfl,b2,a1,a7,e6⟩;have hA:=(b2.block w.heap.size (by simp) nF).trans (heap_alloc_new w _);have a3:But (fun _=>False) w w1:=(But.alloc _ _ _).trans b2;have k9:=ce9 hA;have y9:=frozen_of_row w1 w.heap.size 9 _ _ hA;have m4:=(a3.cell (p:=⟨mb,4,none⟩) a8 nF).trans e4;have n4:=(a3.frozen (p:=⟨mb,4,none⟩) a8 nF).trans z4;have f6:=ae hA;have HA:=hid hA;have f0:mb<w1.heap.size:=Nat.lt_of_lt_of_le a8 a3.size;have f3: ¬w.heap.size=mb:=by omega
  have a9: ¬mb=w.heap.size:=by omega
  have e7:w.heap.size+1≤bl:=by simpa using e6
  clear hA e4 z4 q0 q1 q2 q3 q4 q5 e0 e1 t2;go_wp2_with fail;go_end0;have s9:But (· =w.heap.size) w1 (w1.setCell ⟨w.heap.size,9,none⟩ (.pointer (some ⟨bl,0,none⟩))):=But.setB _ _ _ _;have s4:But (· =mb) (w1.setCell ⟨w.heap.size,9,none⟩ (.pointer (some ⟨bl,0,none⟩))) ((w1.setCell ⟨w.heap.size,9,none⟩ (.pointer (some ⟨bl,0,none⟩))).setCell ⟨mb,4,none⟩ (.pointer (some ⟨w.heap.size,0,none⟩))):=But.setB _ _ _ _;have e8:=heap_setCell_same w1 w.heap.size 9 _ _ (.pointer (some ⟨bl,0,none⟩)) HA.out;refine⟨rfl,w.heap.size,bl,lv,.slice al nL capl,.slice ai nI capi,((a3.mono (fun _ _ h=>h.elim)).next s9 (fun k hk e=>by have e:k=w.heap.size:=e;omega)).trans s4,((HM.out.but a3 nF).but s9 a9).set4 (some w.heap.size),?_,?_,?_,Nat.le_refl _,by omega,?_,?_,e5.out⟩
  ·rw[←HX.out];exact FbB.but e8 s4 f3
  ·exact(s4.block bl (by rw[bf];exact ae a1) (by show¬bl=mb;omega)).trans ((s9.block bl (ae a1) (by show¬bl=w.heap.size;omega)).trans a1)
  ·rw[b4];exact World.ownsRow.mono (ar (ar a7 s9 (fun k hk e=>by have:=ay a7 k hk;simp at this;have e:k=w.heap.size:=e;omega)) s4 (fun k hk e=>by have:=ay a7 k hk;simp at this;have e:k=mb:=e;omega)) (by simp)
  ·have:=b9.out;rw[show X.locals.length=nL from by rw[b3,b4]]at this;rw[←HX.out];exact this
  ·rw[←HX.out];exact e2.out
end
def ld (p:V×UInt8):Bool:=decide (p.2.toNat≠45)
theorem nP {zs:List (V×UInt8)} {k:Nat} {u:V} {y:UInt8} {t:List V} (h:zs[k]?=some (u,y)) (ht:((zs.take k).filter ld).map (·.1)=t):((zs.take (k+1)).filter ld).map (·.1)=if y.toNat=45 then t else t++ [u]:=by
 obtain⟨hk,he⟩:=List.getElem?_eq_some_iff.1 h;rw[List.take_succ_eq_append_getElem hk,List.filter_append,List.map_append,ht,he]
 by_cases e:y.toNat=45
 ·rw[if_pos e];simp[ld,e]
 ·rw[if_neg e];simp[ld,e]
theorem tR (w:World):(w.alloc (.cells #[] 168)).ownsRow w.heap.size 168 2 (.slice (some ⟨w.heap.size,0,none⟩) 0 0) 0 (aA []):=
 ⟨rfl,Or.inr ⟨w.heap.size,0,#[],rfl,Nat.le_refl _,heap_alloc_new w _,by simp,by unfold maxLen;omega,rfl,rfl⟩⟩
theorem nQ (w:World) (b1 cv ct:Nat) (av at':Option Addr) (vs:List V) (ty:List UInt8) (h1:w.ownsRow b1 168 2 (.slice av vs.length cv) vs.length (aA vs)) (h2:BtB w 0 (.slice at' ty.length ct) ty) (h4:vs.length≤4000):
  Calls Tryz.prog 246 #[.slice av vs.length cv,.slice at' ty.length ct] w fun en w'=>But (fun _=>False) w w'∧ ∃v,en= .returned v∧w'.ownsRow w.heap.size 168 2 v (bX vs ty).length (aA (bX vs ty)):=by
 obtain⟨i0,e3,e8,f0,f1⟩:=info_parts gR;obtain⟨zs,a8⟩: ∃zs,vs.zip ty=zs:=⟨_,rfl⟩;have hn:zs.length=min vs.length ty.length:=by rw[←a8];simp
 have HU:Hid (bX vs ty=(zs.filter ld).map (·.1)):=by show _=_;rw[←a8];rfl
 have HZ:Hid (∀k u y,vs[k]?=some u→ty[k]?=some y→zs[k]?=some (u,y)):=fun k u y a b=>by rw[←a8,List.getElem?_zip_eq_some];exact⟨a,b⟩
 rw[HU.out];clear a8 HU;obtain⟨RS,b2⟩: ∃RS,(zs.filter ld).map (·.1)=RS:=⟨_,rfl⟩;rw[b2];have HR:=hid b2;clear b2
 go_in
 go_wp2_with fail;have b9:But (fun _=>False) w (w.alloc (.cells #[] 168)):=But.alloc _ _ _
 go_loopg [5,6] zs.length (fun mm vt is wr=> ∃(ao:Option Addr) (cap k:Nat) (t:List V),vt= .slice ao t.length cap∧is= .int .i64 k∧k≤zs.length∧k+mm≤zs.length∧zs.length≤k+mm∧But (fun _=>False) w wr∧wr.ownsRow w.heap.size 168 2 (.slice ao t.length cap) t.length (aA t)∧t.length≤k∧
  Hid (((zs.take k).filter ld).map (·.1)=t))
 case atStart=>exact⟨_,0,0,[],rfl,rfl,by omega,by omega,by omega,b9,tR w,by simp,rfl⟩
 case round=>
  obtain⟨ao,cap,k,t,rfl,rfl,f5,e4,f6,a2,a3,f7,HA⟩:=hrel;clear e4
  by_cases hlt:k<zs.length
  ·have b4:k<vs.length:=by omega
   have e5:k<ty.length:=by omega
   have e1:(k:Int)<(vs.length:Int):=by omega
   have e2:(k:Int)<(ty.length:Int):=by omega
   obtain⟨u,hu⟩: ∃u,vs[k]?=some u:=⟨_,List.getElem?_eq_getElem b4⟩;obtain⟨y,hy⟩: ∃y,ty[k]?=some y:=⟨_,List.getElem?_eq_getElem e5⟩;obtain⟨g1,r1,f3,_,a0⟩:=aG (ar h1 a2 (fun _ _ h=>h)) (by omega);obtain⟨g2,r2,f4,_,a1⟩:=aG (h2.but a2 (fun _ _ h=>h)) (by omega);subst r1 r2;have q0:wr.cell? ⟨g1,k*2,none⟩=some (.int .i32 (xN u)):=a0 _ _ (bF (k:=0) hu (by omega));have q1:wr.cell? ⟨g1,k*2+1,none⟩=some (.int .i64 (xO u)):=a0 _ _ (bF (k:=1) hu (by omega));have q2:wr.cell? ⟨g2,k,none⟩=some (.int .u8 y.toNat):=a1 _ _ (by rw[bu,List.getElem?_map,hy];rfl);have a7:=hid (nP (HZ.out k u y hu hy) HA.out);clear a0 a1 hu hy HA
   by_cases hyy:y.toNat=45
   ·have b5:(y.toNat:Int)=45:=by omega
    rw[b5]at q2;rw[if_pos hyy]at a7;have e7:=bH ((k:Int)+1) (by omega) (by omega);go_wp2_with fail
    go_roundg (zs.length-(k+1))
    case measure=>omega
    case rel=>exact⟨_,cap,k+1,t,rfl,by simp,by omega,by omega,by omega,a2,a3,by omega,a7.out⟩
   ·have b5:(y.toNat:Int)≠45:=by omega
    rw[if_neg hyy]at a7;have e7:=bH ((k:Int)+1) (by omega) (by omega);go_wp2_with (at_builtin;refine wpList_append_lies _ rfl _ _ _ rfl w.heap.size 168 i0 _ 2 16 (by kernel_rfl) e3 e8 f0 f1 rfl (by omega) _ t.length (aA t) rfl (a3.alloc _) ⟨wr.heap.size,0,none⟩ 1 1 [.int .i32 (xN u),.int .i64 (xO u)] rfl rfl (World.news_of_block (cs:=#[.int .i32 (xN u),.int .i64 (xO u)]) (t:=168) (fr:=(0,0)) (heap_alloc_new wr _)) (by simp[Value.oneCell']) (by omega) (by unfold maxLen;omega) (by omega) (by have:=a2.size;simp;omega) (wr.heap.size+1) (by simp) ?_);intro gg cap3 w2 a5 a4 f2 e6;have e0:But (fun k'=>(Value.slice ao t.length cap).ownBlock=some k') wr w2:=(But.alloc _ _ _).trans (aQ a4)
    have b0:But (fun _=>False) w w2:=a2.next e0 (fun k' hk' h=>absurd (ay a3 k' h) (by omega))
    have a9:w2.ownsRow w.heap.size 168 2 (.slice (some ⟨gg,0,none⟩) (t++ [u]).length cap3) (t++ [u]).length (aA (t++ [u])):=by
     rw[List.length_append,d8];exact a5
    go_wp2_with fail
    go_roundg (zs.length-(k+1))
    case measure=>omega
    case rel=>exact⟨_,cap3,k+1,t++ [u],by simp,by simp,by omega,by omega,by omega,b0,a9,by simp;omega,a7.out⟩
  ·have a6:RS=t:=by rw[←HR.out,←HA.out,List.take_of_length_le (by omega)]
   have b3:=hid a6;clear a6 HA
   by_cases b4:k<vs.length
   ·have e1:(k:Int)<(vs.length:Int):=by omega
    have e2: ¬(k:Int)<(ty.length:Int):=by omega
    go_wp2_with fail;exact cB (.slice ao t.length cap) Tryz.results246 rfl rfl ⟨a2,_,rfl,by rw[b3.out];exact a3⟩
   ·have e1: ¬(k:Int)<(vs.length:Int):=by omega
    go_wp2_with fail;exact cB (.slice ao t.length cap) Tryz.results246 rfl rfl ⟨a2,_,rfl,by rw[b3.out];exact a3⟩
theorem oD (l m:List V):aA (l++m)=aA l++aA m:=by simp[aA]
theorem oE (l:List V): ∀u∈aA l,u.oneCell'=true:=by
 intro u hu;obtain⟨x,_,hx⟩:=List.mem_flatMap.1 hu;simp only[iw,List.mem_cons,List.not_mem_nil,or_false]at hx;rcases hx with h|h<;>(rw[h];rfl)
theorem rR (w:World) (ty:TypeId) (base bx:Nat) (v xv:Value) (l m:List V) (hown:w.ownsRow base 168 2 v l.length (aA l)) (hx:w.ownsRow bx 168 2 xv m.length (aA m)) (hlen:l.length+m.length≤100000) (hbase:base≤w.heap.size):
  ∃v' w',(Builtin.append_ #[213,213] ty #[v,xv]).run Tryz.prog w= .ok v' w'∧w'.ownsRow base 168 2 v' (l++m).length (aA (l++m))∧But (fun k=>v.ownBlock=some k) w w'∧(v'.ownBlock=v.ownBlock∨v'.ownBlock=some w.heap.size):=by
 obtain⟨i0,a1,a5,a2,a6⟩:=info_parts gR;have hu:Tryz.prog.underlying 213=some (.slice 168):=by kernel_rfl
 obtain⟨ax,cx,rfl⟩:=au hx
 cases ax with
 |none=>
  have hm:m.length=0:=by
   rcases Nat.eq_zero_or_pos m.length with h|h
   ·exact h
   ·obtain⟨g,hg,_⟩:=aG hx h
    cases hg
  have a4:m=[]:=List.length_eq_zero_iff.1 hm;subst a4;obtain⟨ao,cap,rfl⟩:=au hown
  have a3:l.length≤cap:=by
   rcases hown.2 with⟨h0,_⟩ | ⟨g',cap',cur,hv,_,_,hn,_⟩
   ·injection h0 with _ a b;omega
   ·injection hv with _ _ e3;omega
  refine⟨_,w,run_append_nothing w _ _ ty 168 i0 hu a1 ao l.length cap (by omega) _ (by rw[a2];exact Src.ofNil w hu cx),by simpa using hown,But.refl _ _,Or.inl rfl⟩
 |some ad=>
  have a0: ∀j u,(aA m)[j]?=some u→w.cell? (ad.add j)=some u:=by
   intro j u hj;obtain⟨g,cap',hv,hc,_⟩:=eG hx hj
   have h1:ad=⟨g,0,none⟩:=by
    have h2:=congrArg (fun v=>match v with|Value.slice a _ _=>a|_=>none) hv;exact Option.some.inj h2
   rw[h1];have e:(⟨g,0,none⟩:Addr).add j=⟨g,j,none⟩:=by simp[Addr.add];exact fun h=>h.symm
   rw[e];exact hc
  obtain⟨v',w',hr,h2,h3,_,h5⟩:=run_append_own_at (P:=Tryz.prog) w base _ ty 168 i0 _ 2 16 hu a1 a5 a2 a6 rfl (by omega) v l.length (aA l) hown ad m.length cx (aA m) (dv m) a0 (oE m) (by unfold maxLen;omega) (by omega) hbase;refine⟨v',w',hr,?_,aQ h3,h5⟩;rw[oD,List.length_append];exact h2
theorem jF {w:World} {ops:Array Oper} {rest:List Oper} {o:Oper} {a:Act} {Q:Exit→Act→World→Prop} (hgd:o.guard=none) (s x:Operand)
  (ho:o.op= .call {callee:= .builtin .append,args:=#[s,x],argTypes:=#[213,213]}) (base bx:Nat) (v xv:Value) (l m:List V) (hs:a.eval s=v) (hx:a.eval x=xv) (hown:w.ownsRow base 168 2 v l.length (aA l)) (hxo:w.ownsRow bx 168 2 xv m.length (aA m)) (hlen:l.length+m.length≤100000) (hbase:base≤w.heap.size)
  (h: ∀ao cap w',w'.ownsRow base 168 2 (.slice ao (l++m).length cap) (l++m).length (aA (l++m))→But (fun k=>v.ownBlock=some k) w w'→((Value.slice ao (l++m).length cap).ownBlock=v.ownBlock∨(Value.slice ao (l++m).length cap).ownBlock=some w.heap.size)→wpList Tryz.prog ops Q rest (a.put o.dst (.slice ao (l++m).length cap)) w'):wpList Tryz.prog ops Q (o::rest) a w:=by
 refine wpList_plain hgd fun K hK=> ?_
 obtain⟨v',w',hr,h1,h2,h3⟩:=rR w o.type base bx v xv l m hown hxo hlen hbase;obtain⟨ao,cap,rfl⟩:=au h1;unfold Oper.wp execOp;simp only[ho,resolve,invoke,builtin,Sem.run_bind,Sem.run_pure,Result.andThen_ok,List.map_toArray,List.map_cons,List.map_nil,hs,hx,hr];exact hK _ _ (h ao cap w' h1 h2 h3)
section
variable (w:World) (fb d pc bl sg base:Nat) (ca:Option Nat) (X:cS) (vl vi sv lv:Value) (stk loc:List V) (tab:List St)
theorem fN (vs:List V) (ts:List UInt8):(bX vs ts).length≤vs.length:=by
 unfold bX;rw[List.length_map];refine Nat.le_trans (List.length_filter_le _ _) ?_;rw[List.length_zip];omega
theorem u9 (h:FbB w fb ca d X vl vi (.slice (some ⟨sg,0,none⟩) tab.length tab.length) pc bl sv) (hs:StB w sg tab) (st lo:List UInt8) (hpc:tab[pc]?=some (some (st,lo))) (hb:w.heap[bl]?=some (.cells #[lv] 280))
  (ho:w.ownsRow base 168 2 sv stk.length (aA stk)) (hl:w.ownsRow base 168 2 lv loc.length (aA loc)) (h4:stk.length≤4000) (h5:loc.length≤4000) (h6:tab.length≤100):
  Calls Tryz.prog 229 #[.pointer (some ⟨fb,0,none⟩)] w fun en w'=>But (fun _=>False) w w'∧ ∃v,en= .returned v∧w'.ownsRow w.heap.size 168 2 v (bX stk st++bX loc lo).length (aA (bX stk st++bX loc lo)):=by
 obtain⟨L,hg,hL,hx⟩:=hs;have f4:pc<tab.length:=(List.getElem?_eq_some_iff.1 hpc).1;rw[←hL,List.getElem?_map]at hpc;obtain⟨⟨x,vs,vo⟩,a6,e8⟩:=Option.map_eq_some_iff.1 hpc;simp only at e8;subst e8;obtain⟨bs,bo⟩:=hx _ (List.mem_of_getElem? a6) st lo rfl;simp only at bs bo;obtain⟨aS,cs,rfl⟩:=au bs;obtain⟨ao,co,rfl⟩:=au bo;obtain⟨av,cv,rfl⟩:=au ho;obtain⟨al,cl,rfl⟩:=au hl;have cc: ∀k v,(ei L)[k]?=some v→w.cell? ⟨sg,k,none⟩=some v:=fun k v hk=>by rw[cell_of_row w sg k _ _ (0,0) hg];simpa using hk
 have q0:w.cell? ⟨sg,pc*3,none⟩=some (.bool true):=cc _ _ (du (k:=0) a6 (by omega));have q1:w.cell? ⟨sg,pc*3+1,none⟩=some (.slice aS st.length cs):=cc _ _ (du (k:=1) a6 (by omega));have q2:w.cell? ⟨sg,pc*3+2,none⟩=some (.slice ao lo.length co):=cc _ _ (du (k:=2) a6 (by omega));have b5:=ae hg;have a2:=h.lt;have e7:=ae hb;have c7:=h.c7;have c8:=h.c8;have c9:=h.c9;have c10:=h.c10;have b0:=ce0 hb;have n0: ¬((pc:Int)<0):=by omega
 have n1: ¬((tab.length:Int)≤(pc:Int)):=by omega
 have n2:(0:Int)≤(pc:Int):=by omega
 have n3:(pc:Int)<(tab.length:Int):=by omega
 have e0:=hid (fun(Y:World) (hY:But (fun _=>False) w Y)=>nQ Y base cv cs av aS stk st (ar ho hY (fun _ _ h=>h)) (bs.but hY (fun _ _ h=>h)) h4);have e1:=hid (fun(Y:World) (hY:But (fun _=>False) w Y)=>nQ Y base cl co al ao loc lo (ar hl hY (fun _ _ h=>h)) (bo.but hY (fun _ _ h=>h)) h5);have f5:=fN stk st;have f6:=fN loc lo;clear h hb ho hl hg cc a6 hpc hx bs bo hL;generalize tab.length=nt at*;generalize bX stk st=us at*;generalize bX loc lo=ul at*
 go_in
 go_wp2_with fail;have a0:But (fun _=>False) w w.drew:=But.drew _ _;refine az (But (fun _=>False) w) 17 (by kernel_rfl) ?_
 iterate 17 (refine aB (v:=?_) rfl (by kernel_rfl) (fun _ _ _ h=>h) rfl a0 ?_ ?_;rotate_left;(focus (intro wS h;have q0:=((h.cell (p:=⟨fb,8,none⟩) a2 nF).trans c8);have q1:=((h.cell (p:=⟨fb,7,none⟩) a2 nF).trans c7);clear h;go_simp;try rfl));dsimp only[Act.put];try simp only[aR])
 refine aD rfl (by kernel_rfl) ?_;clear a0;have HD:=hid (But.drew (fun _=>False) w);go_wp2_with fail;have a0:But (fun _=>False) w w.drew.drew:=HD.out.trans (But.drew _ _);clear HD;refine az (But (fun _=>False) w) 11 (by kernel_rfl) ?_
 iterate 10 (refine aB (v:=?_) rfl (by kernel_rfl) (fun _ _ _ h=>h) rfl a0 ?_ ?_;rotate_left;(focus (intro wS h;have Q0:=((h.cell (p:=⟨fb,8,none⟩) a2 nF).trans c8);have Q1:=((h.cell (p:=⟨fb,7,none⟩) a2 nF).trans c7);have Q2:=((h.cell (p:=⟨sg,pc*3,none⟩) b5 nF).trans q0);have Q3:=((h.cell (p:=⟨sg,pc*3+1,none⟩) b5 nF).trans q1);have Q4:=((h.cell (p:=⟨sg,pc*3+2,none⟩) b5 nF).trans q2);clear h;go_simp;try rfl));dsimp only[Act.put];try simp only[aR])
 generalize w.drew.drew=Y at*;refine ag rfl (by kernel_rfl) ?_;intro KS hKS;go_simp;have a8:But (fun _=>False) w (Y.alloc (.cells #[.bool false,.slice none 0 0,.slice none 0 0] 117)):=a0.trans (But.alloc _ _ _);refine hKS.out _ _ (fun _=>a8) ?_;clear hKS KS;have hA:=heap_alloc_new Y (.cells #[.bool false,.slice none 0 0,.slice none 0 0] 117);revert hA a8;generalize (Y.alloc (.cells #[.bool false,.slice none 0 0,.slice none 0 0] 117))=Z;intro a8 hA;have f3:w.heap.size≤Y.heap.size:=a0.size;generalize Y.heap.size=r at*;have y0:=ce0 hA;have y1:=ce1 hA;have y2:=ce2 hA;have z0:=frozen_of_row Z r 0 _ _ hA
 have z1:=frozen_of_row Z r 1 _ _ hA;have z2:=frozen_of_row Z r 2 _ _ hA;have a3:=ae hA;refine ag rfl (by kernel_rfl) ?_;intro KS hKS;go_simp;refine hKS.out _ _ nofun ?_;clear hKS KS;refine aD rfl (by kernel_rfl) ?_;clear y0 y1 y2 z0 z1 z2 a3;have hT:But (fun _=>False) w (((Z.setCell ⟨r,0,none⟩ (.bool true)).setCell ⟨r,1,none⟩ (.slice aS st.length cs)).setCell ⟨r,2,none⟩ (.slice ao lo.length co)):=a8.next (((But.setB _ _ _ _).trans (But.setB _ _ _ _)).trans (But.setB _ _ _ _)) (fun k hk e=>by have e:k=r:=e;omega);have a4:(((Z.setCell ⟨r,0,none⟩ (.bool true)).setCell ⟨r,1,none⟩ (.slice aS st.length cs)).setCell ⟨r,2,none⟩ (.slice ao lo.length co)).heap[r]?=some (.cells #[.bool true,.slice aS st.length cs,.slice ao lo.length co] 117):=heap_setCell_same _ r 2 _ _ _ (heap_setCell_same _ r 1 _ _ _ (heap_setCell_same _ r 0 _ _ _ hA))
 revert hT a4;generalize (((Z.setCell ⟨r,0,none⟩ (.bool true)).setCell ⟨r,1,none⟩ (.slice aS st.length cs)).setCell ⟨r,2,none⟩ (.slice ao lo.length co))=W;intro hT a4;clear a8 hA a0 q0 q1 q2 c7 c8;have x1:=ce1 a4;have x2:=ce2 a4;have a3:=ae a4;have k9:=(hT.cell (p:=⟨fb,9,none⟩) a2 nF).trans c9;have f0:=(hT.cell (p:=⟨fb,10,none⟩) a2 nF).trans c10;have kb:=(hT.cell (p:=⟨bl,0,none⟩) e7 nF).trans b0;have a9:=Nat.lt_of_lt_of_le a2 hT.size;have b3:=Nat.lt_of_lt_of_le e7 hT.size;clear a4 c9 c10 b0;go_wp2_with fail;have a0:But (fun _=>False) W W.drew:=But.drew _ _;refine az (But (fun _=>False) W) 8 (by kernel_rfl) ?_
 iterate 6 (refine aB (v:=?_) rfl (by kernel_rfl) (fun _ _ _ h=>h) rfl a0 ?_ ?_;rotate_left;(focus (intro wS h;have q0:=((h.cell (p:=⟨fb,10,none⟩) a9 nF).trans f0);have q1:=((h.cell (p:=⟨r,1,none⟩) a3 nF).trans x1);clear h;go_simp;try rfl));dsimp only[Act.put];try simp only[aR])
 refine ag rfl (by kernel_rfl) ?_;intro KS hKS;go_simp;refine(e0.out _ (hT.trans a0)).mono ?_;rintro en w1 ⟨b1,v1,rfl,e2⟩;refine hKS.out _ _ (fun _=>a0.trans b1) ?_;clear hKS KS;refine ag rfl (by kernel_rfl) ?_;intro KS hKS;go_simp;refine hKS.out _ _ (fun _=>a0.trans b1) ?_;clear hKS KS;refine aD rfl (by kernel_rfl) ?_;have a1:=a0.trans b1;have e5:=hT.trans a1;replace x2:=(a1.cell (p:=⟨r,2,none⟩) a3 nF).trans x2;replace k9:=(a1.cell (p:=⟨fb,9,none⟩) a9 nF).trans k9;replace kb:=(a1.cell (p:=⟨bl,0,none⟩) b3 nF).trans kb;replace a3:=Nat.lt_of_lt_of_le a3 a1.size;replace a9:=Nat.lt_of_lt_of_le a9 a1.size
 replace b3:=Nat.lt_of_lt_of_le b3 a1.size;have a7:w1.ownsRow w.heap.size 168 2 v1 us.length (aA us):=World.ownsRow.mono e2 (hT.trans a0).size;clear e2 b1 a0 x1 f0 e0;go_wp2_with fail;have a0:But (fun _=>False) w1 w1.drew:=But.drew _ _;refine az (But (fun _=>False) w1) 11 (by kernel_rfl) ?_
 iterate 9 (refine aB (v:=?_) rfl (by kernel_rfl) (fun _ _ _ h=>h) rfl a0 ?_ ?_;rotate_left;(focus (intro wS h;have q0:=((h.cell (p:=⟨fb,9,none⟩) a9 nF).trans k9);have q1:=((h.cell (p:=⟨r,2,none⟩) a3 nF).trans x2);have q2:=((h.cell (p:=⟨bl,0,none⟩) b3 nF).trans kb);clear h;go_simp;try rfl));dsimp only[Act.put];try simp only[aR])
 refine ag rfl (by kernel_rfl) ?_;intro KS hKS;go_simp;refine(e1.out _ (e5.trans a0)).mono ?_;rintro en w2 ⟨b2,v2,rfl,e3⟩;refine hKS.out _ _ (fun _=>a0.trans b2) ?_;clear hKS KS;refine ag rfl (by kernel_rfl) ?_;intro KS hKS;go_simp;refine hKS.out _ _ (fun _=>a0.trans b2) ?_;clear hKS KS;refine aD rfl (by kernel_rfl) ?_;have a5:=a0.trans b2;have e6:=e5.trans a5;have b4:=ar a7 a5 (fun _ _ h=>h);clear a7 a0 b2 x2 k9 kb e1;go_wp2_with (at_builtin;refine jF rfl _ _ rfl w.heap.size _ v1 v2 us ul rfl rfl b4 e3 (by omega) e6.size ?_);intro aj cj w3 e4 f1 _;have b9:=hid e4;have f2:But (fun _=>False) w w3:=e6.next f1 (fun k hk h=>by have:=ay b4 k h;omega)
 clear e4 b4 e3;go_wp2_with fail;exact cB (.slice aj (us.length+ul.length) cj) Tryz.results229 rfl rfl ⟨f2,_,rfl,by first|exact b9.out| (rw[List.length_append];exact b9.out)⟩
end
def cL (gs:List Nat) (F:List Nat):List Value:=F.map fun k=> .pointer (some ⟨gs.getD k 0,0,none⟩)
theorem rS:(Tryz.prog.info? 315).map (fun i=>(i.zero,i.size,i.bytes))=some (some (.pointer none),1,8):=by kernel_rfl
theorem yr (w:World) (gs:List Nat):(w.alloc (.cells #[] 315)).ownsRow w.heap.size 315 1 (.slice (some ⟨w.heap.size,0,none⟩) 0 0) 0 (cL gs []):=
 ⟨rfl,Or.inr ⟨w.heap.size,0,#[],rfl,Nat.le_refl _,heap_alloc_new w _,by simp,by unfold maxLen;omega,rfl,rfl⟩⟩
section
variable {P:Nat→Prop} {w0 w w':World} {bw tx:Nat} {inp:ByteArray} {s:Ev} {vo vb:Value} {gs:List Nat} {fv:List Value} {cn:Int} {sn:Nat→Int}
theorem WdQ.mark (h:WdQ P w0 w bw tx inp s vo vb gs fv cn sn) {k g:Nat} (hg:gs[k]?=some g):WdQ P w0 (w.setCell ⟨g,2,none⟩ (.int .i64 cn)) bw tx inp s vo vb gs fv cn (fun j=>if j=k then cn else sn j):=by
 have hk:k<s.heap.length:=by rw[←h.lg];exact(List.getElem?_eq_some_iff.1 hg).1
 obtain⟨o,g',v,h1,h2,h3,h4,h5⟩:=h.obj hk;rw[hg]at h2
 cases h2
 have hB:=But.setB w g 2 (.int .i64 cn);have a:=h.stand h4 (h.k7 (List.mem_of_getElem? hg)).1 (h.k7 (List.mem_of_getElem? hg)).2 hB;refine⟨a.old,a.wd (by decide),a.out (by decide),a.ob (by decide),h.lg,h.lf,fun j o' q v' x y z=>⟨?_,a.fld (by decide) j o' q v' x y z⟩,h.nd,h.own,a.pl,h.sf,h.se.1,fun j=> ?_⟩
 ·by_cases e:j=k
  ·subst e;rw[hg]at y
   cases y
   rw[h1]at x
   cases x
   rw[h3]at z
   cases z
   simp only[if_true];exact heap_setCell_same w g 2 _ _ _ h4
  ·simp only[if_neg e];have x1:=(h.obs j o' q v' x y z).1;exact(hB.block q (ae x1) (fun e'=>e (h.nd j k g (by rw[y,e']) hg))).trans x1
 ·show(if j=k then cn else sn j)≤cn
  split
  ·exact Int.le_refl _
  ·exact h.se.2 j
theorem nR (h:WdQ P w0 w bw tx inp s vo vb gs fv cn sn) (h4:s.heap.length≤4000) (hcn:cn≤1000000) (b1 ca:Nat) (av:Option Addr) (vs:List V) (hv:w.ownsRow b1 168 2 (.slice av vs.length ca) vs.length (aA vs)) (hvl:vs.length≤90000)
  (hok: ∀u∈vs,(∃n,u= .i n)∨u= .z∨ ∃k,u= .o k∧k<s.heap.length) (L:List Nat) (hL: ∀j,j<s.heap.length→(sn j=cn↔j∈L)):
  Calls Tryz.prog 247 #[.pointer (some ⟨bw,0,none⟩),.slice av vs.length ca] w fun en w'=>But (· ∈gs) w w'∧ ∃v,en= .returned v∧w'.ownsRow w.heap.size 315 1 v (iv L vs).length (cL gs (iv L vs))∧ ∃sn',WdQ P w0 w' bw tx inp s vo vb gs fv cn sn'∧ ∀j,j<s.heap.length→(sn' j=cn↔j∈L++iv L vs):=by
 obtain⟨i0,h8,i6,i7,i9⟩:=info_parts rS;obtain⟨RS,f1⟩: ∃RS,iv L vs=RS:=⟨_,rfl⟩;rw[f1];have HR:=hid f1;clear f1;have h3:But (· ∈gs) w (w.alloc (.cells #[] 315)):=But.alloc _ _ _;have i3:=fun g (hg:g∈gs)=>h.mg hg
 have f6: ∀wr,But (· ∈gs) w wr→wr.ownsRow b1 168 2 (.slice av vs.length ca) vs.length (aA vs):=fun wr hb=>ar hv hb (fun k hk hg=>by obtain⟨c,v,q,ho⟩:=h.mg hg;exact aF hv ho (by decide) hk)
 have h1:=hid (h.new (But.alloc (fun _=>False) w (.cells #[] 315)));have HL:=hid hL;have g6:=hid hok;have g4:=hid f6;have HG:Hid (∀k,k∈gs→k<w.heap.size):=fun k hk=>h.lt (Or.inr (Or.inr (Or.inr (Or.inl hk))))
 have g5:Hid (∀k',nM bw vo vb gs fv k'→k'<w.heap.size):=fun k hk=>h.lt hk
 have g7:Hid (∀k',P k'→k'<w.heap.size):=fun k hk=>(h.pl k hk).1
 have i5:=h.old.size;clear hL hok f6 i3 h hv
 go_in
 go_wp2_with fail
 go_loopg [5,6] vs.length (fun mm vt is wr=> ∃(ao:Option Addr) (cap k:Nat) (F:List Nat) (sn':Nat→Int),vt= .slice ao F.length cap∧is= .int .i64 k∧k≤vs.length∧k+mm≤vs.length∧vs.length≤k+mm∧But (· ∈gs) w wr∧Hid (WdQ P w0 wr bw tx inp s vo vb gs fv cn sn')∧wr.ownsRow w.heap.size 315 1 (.slice ao F.length cap) F.length (cL gs F)∧F.length≤k∧
  Hid (iv L (vs.take k)=F)∧Hid (∀j,j<s.heap.length→(sn' j=cn↔j∈L++F)))
 case atStart=>exact⟨_,0,0,[],sn,rfl,rfl,by omega,by omega,by omega,h3,h1,yr w gs,by simp,rfl,by simpa using HL⟩
 case round=>
  obtain⟨ao,cap,k,F,sn',rfl,rfl,j2,h9,j3,e3,HW,e8,j4,HA,HS⟩:=hrel;clear h9
  by_cases hlt:k<vs.length
  ·have e1:(k:Int)<(vs.length:Int):=by omega
   obtain⟨u,hu⟩: ∃u,vs[k]?=some u:=⟨_,List.getElem?_eq_getElem hlt⟩;obtain⟨g1,r1,j1,_,a1⟩:=aG (g4.out wr e3) (by omega);subst r1;have q0:wr.cell? ⟨g1,k*2,none⟩=some (.int .i32 (xN u)):=a1 _ _ (bF (k:=0) hu (by omega));have q1:wr.cell? ⟨g1,k*2+1,none⟩=some (.int .i64 (xO u)):=a1 _ _ (bF (k:=1) hu (by omega));have b0:=hid (uL hu HA.out);have j5:=bH ((k:Int)+1) (by omega) (by omega);have f5:=g6.out u (List.mem_of_getElem? hu)
   have h6:(Hid (Calls Tryz.prog 245 #[.pointer (some ⟨bw,0,none⟩),.agg #[.int .i32 (xN u),.int .i64 (xO u)]] wr fun en w'=>But (fun _=>False) wr w'∧en= .returned (.pointer none))∧Hid (jk L F u=F))∨ ∃j g,Hid (u= .o j)∧Hid (j<s.heap.length)∧Hid (gs[j]?=some g)∧Hid (Calls Tryz.prog 245 #[.pointer (some ⟨bw,0,none⟩),.agg #[.int .i32 (xN u),.int .i64 (xO u)]] wr fun en w'=>But (fun _=>False) wr w'∧en= .returned (.pointer (some ⟨g,0,none⟩))):=by
    have b9:=ix HW.out u f5 h4;unfold aJ at b9;rcases f5 with⟨n,rfl⟩ |rfl| ⟨j,rfl,hj⟩
    ·exact Or.inl ⟨b9,rfl⟩
    ·exact Or.inl ⟨b9,rfl⟩
    ·obtain⟨g,hg⟩: ∃g,gs[j]?=some g:=⟨_,List.getElem?_eq_getElem (show j<gs.length by rw[HW.out.lg];exact hj)⟩;simp only[hg,Option.map_some]at b9;exact Or.inr ⟨j,g,rfl,hj,hg,b9⟩
   clear a1 hu HA f5;rcases h6 with⟨b3,b2⟩ | ⟨j,g,f8,HJ,e2,b3⟩
   ·rw[b2.out]at b0;go_wp2_with fail;refine b3.out.mono ?_;rintro en w1 ⟨a7,rfl⟩;clear b3 q0 q1;have a4:=hid (HW.out.new a7);have a3:=ar e8 a7 (fun _ _ h=>h);have a2:But (· ∈gs) w w1:=e3.trans (a7.mono (fun _ _ h=>h.elim));go_wp2_with fail
    go_quiet (fail)
    go_wp2_with fail;have a0:=But.drewN (fun _=>False) w1 nq
    go_roundg (vs.length-(k+1))
    case measure=>omega
    case rel=>exact⟨_,cap,k+1,F,sn',rfl,by simp,by omega,by omega,by omega,a2.trans (a0.mono (fun _ _ h=>h.elim)),a4.out.new a0,ar a3 a0 (fun _ _ h=>h),by omega,b0.out,HS.out⟩
   ·go_wp2_with fail;refine b3.out.mono ?_;rintro en w1 ⟨a7,rfl⟩;clear b3 q0 q1;have a4:=hid (HW.out.new a7);have a3:=ar e8 a7 (fun _ _ h=>h);have a2:But (· ∈gs) w w1:=e3.trans (a7.mono (fun _ _ h=>h.elim));obtain⟨o,g',v,o1,o2,o3,o4,o5⟩:=a4.out.obj HJ.out;rw[e2.out]at o2
    cases o2
    have m2:=ce2 o4;have f2:=frozen_of_row w1 g 2 _ _ o4;have c5:=a4.out.wd.c5;have e5:=ae o4;have a9:=a4.out.wd.lt;clear o1 o3 o4 o5
    by_cases hs:sn' j=cn
    ·rw[hs]at m2
     have b2:Hid (jk L F u=F):=by
      show _=_
      rw[f8.out];exact if_pos ((HS.out j HJ.out).1 hs)
     rw[b2.out]at b0;go_wp2_with fail
     go_quiet (fail)
     go_wp2_with fail;have a0:=But.drewN (fun _=>False) w1 nq
     go_roundg (vs.length-(k+1))
     case measure=>omega
     case rel=>exact⟨_,cap,k+1,F,sn',rfl,by simp,by omega,by omega,by omega,a2.trans (a0.mono (fun _ _ h=>h.elim)),a4.out.new a0,ar a3 a0 (fun _ _ h=>h),by omega,b0.out,HS.out⟩
    ·have b2:Hid (jk L F u=F++ [j]):=by
      show _=_
      rw[f8.out];exact if_neg (fun h=>hs ((HS.out j HJ.out).2 h))
     rw[b2.out]at b0;go_wp2_with fail
     go_quiet (fail)
     have a0:=But.drewN (fun _=>False) w1 nq;have g0:=hid (a4.out.new a0);have b5:=ar a3 a0 (fun _ _ h=>h);have e6:But (· ∈gs) w (w1.drewN nq):=a2.trans (a0.mono (fun _ _ h=>h.elim));replace m2:=(a0.cell (p:=⟨g,2,none⟩) e5 nF).trans m2;replace f2:=(a0.frozen (p:=⟨g,2,none⟩) e5 nF).trans f2;replace c5:=(a0.cell (p:=⟨bw,5,none⟩) a9 nF).trans c5;replace e5:=Nat.lt_of_lt_of_le e5 a0.size;replace a9:=Nat.lt_of_lt_of_le a9 a0.size;clear a0 a4 a3 a2;generalize w1.drewN nq=w2 at*;have g2:=hid (g0.out.mark e2.out);have g3:g∈gs:=List.mem_of_getElem? e2.out;have b4:But (· ∈gs) w (w2.setCell ⟨g,2,none⟩ (.int .i64 cn)):=e6.trans ((But.setB w2 g 2 _).mono (fun k _ e=>by have e:k=g:=e;rw[e];exact g3))
     have a8:(w2.setCell ⟨g,2,none⟩ (.int .i64 cn)).ownsRow w.heap.size 315 1 (.slice ao F.length cap) F.length (cL gs F):=ar b5 (But.setB w2 g 2 _) (fun k hk e=>by have e:k=g:=e;have:=ay b5 k hk;have:=HG.out g g3;omega);have i4:w.heap.size≤(w2.setCell ⟨g,2,none⟩ (.int .i64 cn)).heap.size:=b4.size;have f4:(w2.setCell ⟨g,2,none⟩ (.int .i64 cn)).heap.size=w2.heap.size:=bf _ _ _;have h5:(sn' j !=cn)=true:=by simpa using hs
     have h7:gs.getD j 0=g:=by rw[List.getD_eq_getElem?_getD,e2.out];rfl
     go_wp2_with (at_builtin;refine wpList_append_lies _ rfl _ _ _ rfl w.heap.size 315 i0 _ 1 8 (by kernel_rfl) h8 i6 i7 i9 rfl (by omega) _ F.length (cL gs F) rfl (a8.alloc _) ⟨w2.heap.size,0,none⟩ 1 1 [.pointer (some ⟨g,0,none⟩)] rfl rfl (World.news_of_block (cs:=#[.pointer (some ⟨g,0,none⟩)]) (t:=315) (fr:=(0,0)) (aw (by rw[f4]) _)) (by simp[Value.oneCell']) (by omega) (by unfold maxLen;omega) (by omega) (by simp only[World.size_alloc];omega) (w2.heap.size+1) (by simp) ?_);intro gg cap3 w4 a6 a5 j0 i2;have f3:But (fun k'=>(Value.slice ao F.length cap).ownBlock=some k') (w2.setCell ⟨g,2,none⟩ (.int .i64 cn)) w4:=(But.alloc _ _ _).trans (aQ a5)
     have e4: ∀k',(Value.slice ao F.length cap).ownBlock=some k'→w.heap.size≤k':=fun k' h=>ay a8 k' h
     have e7:But (· ∈gs) w w4:=b4.next f3 (fun k' hk' h=>absurd (e4 k' h) (by omega));have i1: ∀k',nM bw vo vb gs fv k'→k'<w.heap.size:=g5.out;have h2:Hid (WdQ P w0 w4 bw tx inp s vo vb gs fv cn (fun i=>if i=j then cn else sn' i)):=g2.out.but f3 (fun k' h=>by have:=e4 k' h;omega) (fun k' hk' h=>by have:=e4 k' h;have:=i1 k' hk';omega) (fun k' hk' h=>by have:=e4 k' h;have:=g7.out k' hk';omega)
     have f0:w4.ownsRow w.heap.size 315 1 (.slice (some ⟨gg,0,none⟩) (F++ [j]).length cap3) (F++ [j]).length (cL gs (F++ [j])):=by
      rw[List.length_append,cL,List.map_append];simp only[List.map_cons,List.map_nil,h7];exact a6
     have h0:Hid (∀i,i<s.heap.length→((if i=j then cn else sn' i)=cn↔i∈L++(F++ [j]))):=fun i hi=>by
      by_cases e:i=j
      ·simp[e]
      ·rw[if_neg e,HS.out i hi];simp[e]
     clear a6 a5 f3 g2 a8 HS HW g0;go_wp2_with fail
     go_roundg (vs.length-(k+1))
     case measure=>omega
     case rel=>exact⟨_,cap3,k+1,F++ [j],_,by simp,by simp,by omega,by omega,by omega,e7,h2,f0,by simp;omega,b0,h0⟩
  ·have e0:RS=F:=by rw[←HR.out,←HA.out,List.take_of_length_le (by omega)]
   have f7:=hid e0;clear e0 HA;have e1: ¬(k:Int)<(vs.length:Int):=by omega
   go_wp2_with fail;exact cB (.slice ao F.length cap) Tryz.results247 rfl rfl ⟨e3,_,rfl,by rw[f7.out];exact e8,sn',HW.out,by rw[f7.out];simpa only[List.mem_append]using HS.out⟩
end
theorem mj (b:Nat) (cs:List bB) (c:UInt8) (w:World) (hn:cs.length≤100) (hT:TxC w b cs) (hf:(bQ cs c).length≤1000):
  Calls Tryz.prog 231 #[.pointer (some ⟨b,0,none⟩),.int .u8 c.toNat] w fun e w'=>e= .returned (.int .i64 (1+(bQ cs c).length:Nat))∧w'=w:=by
 have HF:=hid (mH b cs c w hn hT);have a0:=bH (1+((bQ cs c).length:Int)) (by omega) (by omega)
 go_in
 go_wp2_with fail;refine HF.out.mono ?_;rintro en w1 ⟨rfl,rfl⟩;go_wp2_with fail;go_ret;exact⟨by simp,rfl⟩
theorem tp (gs l m:List Nat):cL gs (l++m)=cL gs l++cL gs m:=by simp[cL]
theorem tq (gs l:List Nat):(cL gs l).length=l.length*1:=by simp[cL]
theorem tr (gs l:List Nat): ∀u∈cL gs l,u.oneCell'=true:=by
 intro u hu;obtain⟨x,_,rfl⟩:=List.mem_map.1 hu
 rfl
theorem rT (w:World) (ty:TypeId) (base bx:Nat) (v xv:Value) (gs l m:List Nat) (hown:w.ownsRow base 315 1 v l.length (cL gs l)) (hx:w.ownsRow bx 315 1 xv m.length (cL gs m)) (hlen:l.length+m.length≤100000) (hbase:base≤w.heap.size):
  ∃v' w',(Builtin.append_ #[209,209] ty #[v,xv]).run Tryz.prog w= .ok v' w'∧w'.ownsRow base 315 1 v' (l++m).length (cL gs (l++m))∧But (fun k=>v.ownBlock=some k) w w':=by
 obtain⟨i0,a1,a5,a2,a6⟩:=info_parts rS;have hu:Tryz.prog.underlying 209=some (.slice 315):=by kernel_rfl
 obtain⟨ax,cx,rfl⟩:=au hx
 cases ax with
 |none=>
  have hm:m.length=0:=by
   rcases Nat.eq_zero_or_pos m.length with h|h
   ·exact h
   ·obtain⟨g,hg,_⟩:=aG hx h
    cases hg
  have a4:m=[]:=List.length_eq_zero_iff.1 hm;subst a4;obtain⟨ao,cap,rfl⟩:=au hown
  have a3:l.length≤cap:=by
   rcases hown.2 with⟨h0,_⟩ | ⟨g',cap',cur,hv,_,_,hn,_⟩
   ·injection h0 with _ a b;omega
   ·injection hv with _ _ e3;omega
  refine⟨_,w,run_append_nothing w _ _ ty 315 i0 hu a1 ao l.length cap (by omega) _ (by rw[a2];exact Src.ofNil w hu cx),by simpa using hown,But.refl _ _⟩
 |some ad=>
  have a0: ∀j u,(cL gs m)[j]?=some u→w.cell? (ad.add j)=some u:=by
   intro j u hj;obtain⟨g,cap',hv,hc,_⟩:=eG hx hj
   have h1:ad=⟨g,0,none⟩:=by
    have h2:=congrArg (fun v=>match v with|Value.slice a _ _=>a|_=>none) hv;exact Option.some.inj h2
   rw[h1];have e:(⟨g,0,none⟩:Addr).add j=⟨g,j,none⟩:=by simp[Addr.add];exact fun h=>h.symm
   rw[e];exact hc
  obtain⟨v',w',hr,h2,h3,_,h5⟩:=run_append_own_at (P:=Tryz.prog) w base _ ty 315 i0 _ 1 8 hu a1 a5 a2 a6 rfl (by omega) v l.length (cL gs l) hown ad m.length cx (cL gs m) (tq gs m) a0 (tr gs m) (by unfold maxLen;omega) (by omega) hbase;refine⟨v',w',hr,?_,aQ h3⟩;rw[tp,List.length_append];exact h2
theorem nS {w:World} {ops:Array Oper} {rest:List Oper} {o:Oper} {a:Act} {Q:Exit→Act→World→Prop} (hgd:o.guard=none) (s x:Operand)
  (ho:o.op= .call {callee:= .builtin .append,args:=#[s,x],argTypes:=#[209,209]}) (base bx:Nat) (v xv:Value) (gs l m:List Nat) (hs:a.eval s=v) (hx:a.eval x=xv) (hown:w.ownsRow base 315 1 v l.length (cL gs l)) (hxo:w.ownsRow bx 315 1 xv m.length (cL gs m)) (hlen:l.length+m.length≤100000) (hbase:base≤w.heap.size)
  (h: ∀ao cap w',w'.ownsRow base 315 1 (.slice ao (l++m).length cap) (l++m).length (cL gs (l++m))→But (fun k=>v.ownBlock=some k) w w'→wpList Tryz.prog ops Q rest (a.put o.dst (.slice ao (l++m).length cap)) w'):wpList Tryz.prog ops Q (o::rest) a w:=by
 refine wpList_plain hgd fun K hK=> ?_
 obtain⟨v',w',hr,h1,h2⟩:=rT w o.type base bx v xv gs l m hown hxo hlen hbase;obtain⟨ao,cap,rfl⟩:=au h1;unfold Oper.wp execOp;simp only[ho,resolve,invoke,builtin,Sem.run_bind,Sem.run_pure,Result.andThen_ok,List.map_toArray,List.map_cons,List.map_nil,hs,hx,hr];exact hK _ _ (h ao cap w' h1 h2)
def jG (cs:List bB) (hp:List Ob):Prop:= ∀o∈hp,(∃a:UInt8,a.toNat=65+o.cls∧(bQ cs a).length=o.fs.length)∧o.fs.length≤100∧ ∀u∈o.fs,ie hp.length u
section
variable {P:Nat→Prop} {w0 w w':World} {bw tx:Nat} {inp:ByteArray} {s:Ev} {vo vb:Value} {gs:List Nat} {fv:List Value} {cn:Int} {sn:Nat→Int}
theorem nU {hp:List Ob} {cs:List bB} (h:jG cs hp) (k:Nat):eK hp k≤101:=by
 unfold eK;rcases hk:hp[k]? with _|o
 ·simp
 ·have:=(h o (List.mem_of_getElem? hk)).2.1;simp;omega
theorem qj (f:Nat→Nat) (b:Nat) (hf: ∀k,f k≤b): ∀l:List Nat,(l.map f).sum≤b*l.length
 | []=>by simp
 |k::l=>by
  have h1:=qj f b hf l;have h2:=hf k;simp only[List.map_cons,List.sum_cons,List.length_cons,Nat.mul_add,Nat.mul_one];omega
theorem rU (h:WdQ P w0 w bw tx inp s vo vb gs fv cn sn) (h4:s.heap.length≤4000) (hcn:cn≤100000) (b1 ca:Nat) (av:Option Addr) (vs:List V) (hv:w.ownsRow b1 168 2 (.slice av vs.length ca) vs.length (aA vs)) (hvl:vs.length≤90000)
  (hok: ∀u∈vs,ie s.heap.length u) (cs:List bB) (hn:cs.length≤100) (hT:TxC w0 tx cs) (hob:jG cs s.heap):
  Calls Tryz.prog 230 #[.pointer (some ⟨bw,0,none⟩),.slice av vs.length ca] w fun en w'=>en= .returned (.int .i64 (ck s.heap (fun k=>V.o k∈vs)))∧But (fun k=>k=bw∨k∈gs) w w'∧ ∃sn',WdQ P w0 w' bw tx inp s vo vb gs fv (cn+1) sn':=by
 obtain⟨RS,e8⟩: ∃RS,ck s.heap (fun k=>V.o k∈vs)=RS:=⟨_,rfl⟩;rw[e8];have HR:=hid e8;clear e8;have i5:=h.se.1;have c5:=h.wd.c5;have f5:=h.wd.fz 5;have j3:=h.wd.lt;have l4:=bH (cn+1) (by omega) (by omega);have HC:=hid (h.count (cn+1) (by omega));have i4:But (fun k=>k=bw∨k∈gs) w (w.setCell ⟨bw,5,none⟩ (.int .i64 (cn+1))):=(But.setB _ _ _ _).mono (fun _ _ h=>Or.inl h);have h3:=ar hv (But.setB w bw 5 (.int .i64 (cn+1))) (fun k hk e=>by have e:k=bw:=e;exact aF hv h.wd (by decide) (e▸hk));have a6:=hid (nR HC.out h4 (by omega) b1 ca av vs h3 hvl hok [] (fun j _=>⟨fun e=>by have:=h.se.2 j;omega,fun e=>by cases e⟩))
 have i2:=hid (kw hok);have k3:=rx [] vs;have i7:(w.setCell ⟨bw,5,none⟩ (.int .i64 (cn+1))).heap.size=w.heap.size:=bf _ _ _;have HG:Hid (∀k,k∈gs→k<w.heap.size):=fun k hk=>h.lt (Or.inr (Or.inr (Or.inr (Or.inl hk))))
 have h6:Hid (∀k',nM bw vo vb gs fv k'→k'<w.heap.size):=fun k hk=>h.lt hk
 have h7:Hid (∀k',P k'→k'<w.heap.size):=fun k hk=>(h.pl k hk).1
 have i9:=h.old.size;have f4:=hid hob;clear h hv h3 hok hob
 go_in
 go_wp2_with fail;refine a6.out.mono ?_;rintro en w1 ⟨i3,v1,rfl,e7,j0,g5,g3⟩;clear a6 c5 f5;rw[i7]at e7;obtain⟨a1,cap1,rfl⟩:=au e7;generalize iv [] vs=F0 at*;have e6:But (fun k=>k=bw∨k∈gs) w w1:=i4.trans (i3.mono (fun _ _ h=>Or.inr h));have i0:=hid g5;have h8:=hid g3;clear g5 g3;go_wp2_with fail
 go_loopg [5,6,7] s.heap.length (fun mm cv fvv is wr=> ∃(ao:Option Addr) (cap i:Nat) (F:List Nat) (sn':Nat→Int),fvv= .slice ao F.length cap∧is= .int .i64 i∧cv= .int .i64 ((F.take i).map (eK s.heap)).sum∧i≤F.length∧i+mm≤s.heap.length∧s.heap.length≤i+mm∧But (fun k=>k=bw∨k∈gs) w wr∧Hid (WdQ P w0 wr bw tx inp s vo vb gs fv (cn+1) sn')∧wr.ownsRow w.heap.size 315 1 (.slice ao F.length cap) F.length (cL gs F)∧
  Hid (qa s.heap vs i F)∧Hid (∀j,j<s.heap.length→(sn' j=cn+1↔j∈F)))
 case atStart=>exact⟨a1,cap1,0,F0,j0,rfl,rfl,by simp,by omega,by omega,by omega,e6,i0,e7,i2,by simpa using h8⟩
 case round=>
  obtain⟨ao,cap,i,F,sn',rfl,rfl,rfl,j5,j7,k0,e3,HW,hO,HK,HS⟩:=hrel
  by_cases hlt:i<F.length
  ·obtain⟨j,hj⟩: ∃j,F[i]?=some j:=⟨_,List.getElem?_eq_getElem hlt⟩;have i6:=HK.out.lt j (List.mem_of_getElem? hj);have j2:=iF HK.out;obtain⟨o,g,v,o1,o2,o3,o4,o5⟩:=HW.out.obj i6;obtain⟨⟨a,ha,h0⟩,k9,f1⟩:=f4.out o (List.mem_of_getElem? o1);have h1:gs.getD j 0=g:=by rw[List.getD_eq_getElem?_getD,o2];rfl
   have g7:eK s.heap j=1+o.fs.length:=by unfold eK;rw[o1];rfl
   have f2:=hid (lN HK.out hj o1 f1);have b9:=hid (fun(Y:World) (hY:But (fun _=>False) w0 Y)=>mj tx cs a Y hn (hT.but hY) (by omega));rw[h0]at b9;have a6:=hid (fun(Y:World) (hY:But (fun _=>False) wr Y) (a':Option Addr) (c':Nat) (e:v= .slice a' o.fs.length c')=>nR (HW.out.new hY) h4 (by omega) w0.heap.size c' a' o.fs (e▸ar o5 hY (fun _ _ h=>h)) (by omega) f1 F HS.out);obtain⟨af,cf,rfl⟩:=au o5;have a3:=qj (eK s.heap) 101 (nU f4.out) (F.take i);have h2:(F.take i).length=i:=by rw[List.length_take];omega
   have f6:Hid (((((F++iv F o.fs).take (i+1)).map (eK s.heap)).sum=((F.take i).map (eK s.heap)).sum+(1+o.fs.length))):=by
    show _=_
    rw[List.take_append_of_le_length (by omega),List.take_succ_eq_append_getElem hlt,List.map_append,List.sum_append];have:F[i]=j:=(List.getElem?_eq_some_iff.1 hj).2;rw[this,List.map_cons,List.map_nil,List.sum_cons,List.sum_nil,g7];omega
   obtain⟨SM,f0⟩: ∃SM,((F.take i).map (eK s.heap)).sum=SM:=⟨_,rfl⟩;rw[f0]at a3 f6;rw[f0];clear f0;have l0:SM≤404000:=by rw[h2]at a3;omega
   have k1:=rx F o.fs;obtain⟨gF,r1,b4,j4,a2⟩:=aG hO (by omega);subst r1;have q0:wr.cell? ⟨gF,i,none⟩=some (.pointer (some ⟨g,0,none⟩)):=a2 _ _ (by unfold cL;rw[List.getElem?_map,hj];simp only[Option.map_some,h1]);have x0:wr.cell? ⟨g,0,none⟩=some (.int .u8 a.toNat):=by rw[cell_of_row wr g 0 _ _ (0,0) o4,ha];rfl
   have x1:=ce1 o4;have t0:=HW.out.wd.c0;have b5:=ae o4;have a9:=HW.out.wd.lt;have a5:=hid HW.out.old;have e1:(i:Int)<(F.length:Int):=by omega
   have l3:=bH ((i:Int)+1) (by omega) (by omega);have l5:=bH ((SM:Int)+(1+(o.fs.length:Int))) (by omega) (by omega);clear a2 o1 o3 o4 o5 hj ha h0 g7 h1 f1 a3 h2;go_wp2_with fail;have a0:But (fun _=>False) wr wr.drew:=But.drew _ _;refine az (But (fun _=>False) wr) 15 (by kernel_rfl) ?_
   iterate 12 (refine aB (v:=?_) rfl (by kernel_rfl) (fun _ _ _ h=>h) rfl a0 ?_ ?_;rotate_left;(focus (intro wS h;have Q0:=((h.cell (p:=⟨bw,0,none⟩) a9 nF).trans t0);have Q1:=((h.cell (p:=⟨gF,i,none⟩) b4 nF).trans q0);have Q2:=((h.cell (p:=⟨g,0,none⟩) b5 nF).trans x0);clear h;go_simp;try rfl));dsimp only[Act.put];try simp only[aR])
   refine ag rfl (by kernel_rfl) ?_;intro KS hKS;go_simp;refine(b9.out _ (a5.out.trans a0)).mono ?_;rintro en wx ⟨rfl,rfl⟩;refine hKS.out _ _ (fun _=>a0) ?_;clear hKS KS;refine ag rfl (by kernel_rfl) ?_;intro KS hKS;go_simp;refine hKS.out _ _ (fun _=>a0) ?_;clear hKS KS;refine ag rfl (by kernel_rfl) ?_;intro KS hKS;go_simp;refine hKS.out _ _ (fun _=>a0) ?_;clear hKS KS;refine aD rfl (by kernel_rfl) ?_;have b2:=ar hO a0 (fun _ _ h=>h);have e4:But (fun k=>k=bw∨k∈gs) w wr.drew:=e3.trans (a0.mono (fun _ _ h=>h.elim));replace q0:=(a0.cell (p:=⟨gF,i,none⟩) b4 nF).trans q0;replace x1:=(a0.cell (p:=⟨g,1,none⟩) b5 nF).trans x1
   replace b4:=Nat.lt_of_lt_of_le b4 a0.size;replace b5:=Nat.lt_of_lt_of_le b5 a0.size;have f7:=hid (a6.out _ a0 af cf rfl);clear a6 b9 t0 x0 HW HS hO e3 a9 a5 a0;generalize wr.drew=w2 at*;go_wp2_with fail;refine f7.out.mono ?_;rintro en w3 ⟨g0,v3,rfl,g1,h5,g6,g4⟩;have a7:But (fun k=>k=bw∨k∈gs) w w3:=e4.trans (g0.mono (fun _ _ h=>Or.inr h));have a8:=ar b2 g0 (fun k hk hg=>by have:=ay b2 k hk;have:=HG.out k hg;omega);have b3: ∀k',(Value.slice (some ⟨gF,0,none⟩) F.length cap).ownBlock=some k'→w.heap.size≤k':=fun k' h=>ay b2 k' h
   have f8:=hid g6;have h9:=hid g4;clear f7 b2 g6 g4 q0 x1;generalize iv F o.fs=F3 at*;go_wp2_with (at_builtin;refine nS rfl _ _ rfl w.heap.size _ _ v3 gs F F3 rfl rfl a8 g1 (by omega) a7.size ?_);intro a4 e0 w4 g2 e2;have e5:But (fun k=>k=bw∨k∈gs) w w4:=a7.next e2 (fun k' hk' h=>absurd (b3 k' h) (by omega));have i1:Hid (WdQ P w0 w4 bw tx inp s vo vb gs fv (cn+1) h5):=f8.out.but e2 (fun k' h=>by have:=b3 k' h;omega) (fun k' hk' h=>by have:=b3 k' h;have:=h6.out k' hk';omega) (fun k' hk' h=>by have:=b3 k' h;have:=h7.out k' hk';omega);have f3:=hid g2;have j1:=iF f2.out;clear g2 f8 a8 g1 e2;go_wp2_with fail
   go_roundg (s.heap.length-(i+1))
   case measure=>omega
   case rel=>exact⟨a4,e0,i+1,F++F3,h5,by simp,by simp,by rw[f6.out];simp,by simp;omega,by omega,by omega,e5,i1,by first|exact f3.out| (rw[List.length_append];exact f3.out),f2,h9⟩
  ·have b0:((F.take i).map (eK s.heap)).sum=RS:=by rw[←HR.out,nE HK.out (by omega),List.take_of_length_le (by omega)]
   rw[b0];have e1: ¬(i:Int)<(F.length:Int):=by omega
   clear b0;go_wp2_with fail;go_ret;exact⟨rfl,e3,sn',HW.out⟩
end
end
end Go.Proofs.YtpfkkmacakjmbaaGreatDoor
