import Derived.Test.YtpfkkmacakjmbaaGreatDoorP25
import Derived.Test.YtpfkkmacakjmbaaGreatDoorP20
set_option maxRecDepth 100000
set_option maxHeartbeats 6400000
set_option linter.unusedSimpArgs false
set_option linter.unusedVariables false
namespace Go.Proofs.YtpfkkmacakjmbaaGreatDoor
section
open Go Go.RowKit Sp
attribute [local go_sem ↓] Go.wp_at_zero Go.wp_at_succ
structure Be (w0 w w':World) (mb tx:Nat) (tv:Value) (bw cells:Nat) (cur:Option Nat) (ans:Int) (d:Nat) (gs:List Sig) (b:Bod) (p:Nat×List St) (fb bl:Nat) (lv vl vi:Value):Prop where
 but:But (· =mb) w w'
 mc:MbB w' mb tx tv bw cells (some fb) ans
 fr:FbB w' fb cur d (aN gs b) vl vi (.slice (some ⟨p.1,0,none⟩) p.2.length p.2.length) 0 bl (.slice none 0 0)
 lb:w'.heap[bl]?=some (.cells #[lv] 280)
 lo:w'.ownsRow w.heap.size 168 2 lv b.locals.length (au (b.locals.map cC))
 gf:w.heap.size≤fb
 gl:w.heap.size≤bl
 bt:BtB w0 0 vl (aN gs b).locals
 it:ItB w0 0 vi (aN gs b).items
 tb:StB w0 p.1 p.2
section
variable (w0 w:World) (mb tx bw cells d base:Nat) (tv:Value) (ans:Int) (im:Img) (l:List (Nat×List St)) (q:Nat) (b:Bod) (p:Nat×List St)
theorem pV (cur:Option Nat) (hd:(cur=none∧d=0)∨ ∃a4,cur=some a4∧a4<w.heap.size∧w.cell? ⟨a4,1,none⟩=some (.int .i64 d)) (hdd:d≤100) (h:MbB w mb tx tv bw cells cur ans) (h0:But (fun _=>False) w0 w) (hT:dk w0 tx im) (hl:el w0 base tv l) (hq:im.bodies[q]?=some b) (hp:l[q]?=some p) (hlo:b.locals.length≤5) (hnb:im.bodies.length≤100):
  Calls Tryz.prog 87 #[.pointer (some ⟨mb,0,none⟩),.int .i64 q] w fun en w'=>en= .returned (.tuple #[])∧ ∃fb bl lv vl vi,Be w0 w w' mb tx tv bw cells cur ans (d+1) im.sigs b p fb bl lv vl vi:=by
 obtain⟨v2,t2,b1,lb,hO,hm,hf⟩:=hT.bod;have hX:(im.bodies.map (aN im.sigs))[q]?=some (aN im.sigs b):=by rw[List.getElem?_map,hq];rfl
 rw[←hm,List.getElem?_map]at hX;obtain⟨⟨X,vl,vi⟩,a1,a5⟩:=Option.map_eq_some_iff.1 hX;simp only at a5;have HX:Hid (X=aN im.sigs b):=a5;have b4:X.locals=b.locals:=by rw[a5];rfl
 clear a5;obtain⟨f1,f2⟩:=hf _ (List.mem_of_getElem? a1);simp only at f1 f2;have b9:=hid f1;have c6:=hid f2;obtain⟨al,capl,rfl⟩:=aw f1;obtain⟨ai,capi,rfl⟩:=aw f2;obtain⟨ao,capo,rfl⟩:=aw hO;have e9:q<lb.length:=(List.getElem?_eq_some_iff.1 a1).1;obtain⟨g,rfl,a2,f4,a0⟩:=aI hO (by omega);have q0:=a0 _ _ (aW (k:=0) a1 (by omega));have q1:=a0 _ _ (aW (k:=1) a1 (by omega));have q2:=a0 _ _ (aW (k:=2) a1 (by omega));have q3:=a0 _ _ (aW (k:=3) a1 (by omega));have q4:=a0 _ _ (aW (k:=4) a1 (by omega));simp only[Nat.add_zero,List.getElem?_cons_zero,List.getElem?_cons_succ]at q0 q1 q2 q3 q4;obtain⟨ax,capx,rfl⟩:=aw hl.1
 have f0:q<l.length:=(List.getElem?_eq_some_iff.1 hp).1;obtain⟨gx,rfl,b2,g1,b6⟩:=aI hl.1 (by omega);have q5:w0.cell? ⟨gx,q,none⟩=some (.slice (some ⟨p.1,0,none⟩) p.2.length p.2.length):=b6 _ _ (by simp[iF,hp]);have e2:=hid (hl.2 p (List.mem_of_getElem? hp));replace q0:=(h0.cell a2 (fun h=>h)).trans q0;replace q1:=(h0.cell a2 (fun h=>h)).trans q1;replace q2:=(h0.cell a2 (fun h=>h)).trans q2;replace q3:=(h0.cell a2 (fun h=>h)).trans q3;replace q4:=(h0.cell a2 (fun h=>h)).trans q4;replace q5:=h0.kc q5 b2;replace t2:=(h0.cell b1 (fun h=>h)).trans t2;replace a2:=Nat.lt_of_lt_of_le a2 h0.size;replace b2:=Nat.lt_of_lt_of_le b2 h0.size
 replace b1:=Nat.lt_of_lt_of_le b1 h0.size;have d6:=hid (fun Y=>kv X.cls (X.meth:Int) X.ans b.locals al capl ai X.items.length capi Y (by omega));have e0:=h.c0;have e1:=h.c1;have z4:=h.fz 4;have a8:=h.lt;have HM:=hid h;have f7:(0:Int)≤(q:Int):=by omega
 have f8:(q:Int)<(lb.length:Int):=by omega
 have f9:(q:Int)<(l.length:Int):=by omega
 have a6:lb.length=im.bodies.length:=by have:=congrArg List.length hm;simpa using this
 rw[b4]at q3;clear a6;have e4:=h.c4;have HD:=hid hd;clear hd;clear hX a1 f1 f2 a0 b6 hf hO hm hq e9 hT h hl hp f0;generalize b5:b.locals.length=nL at*;generalize f6:X.items.length=nI at*;generalize lb.length=nb at*;generalize l.length=nx at*;have g0:=dE ((d:Int)+1) (by omega) (by omega);rcases HD.out with⟨rfl,rfl⟩ | ⟨a4,rfl,f5,c1⟩
 all_goals
  simp only[iG,Option.map_none,Option.map_some]at e4
  go_in
  go_wp2_with fail;refine(d6.out _).mono ?_;rintro en w1 ⟨bl,lv,rfl,b3,a1,a7,e3⟩;have hA:=(b3.block w.heap.size (by simp) nF).trans (heap_alloc_new w _);have a3:But (fun _=>False) w w1:=(But.alloc _ _ _).trans b3;have k9:=ce9 hA;have y9:=frozen_of_row w1 w.heap.size 9 _ _ hA;have m4:=(a3.cell (p:=⟨mb,4,none⟩) a8 nF).trans e4;have n4:=(a3.frozen (p:=⟨mb,4,none⟩) a8 nF).trans z4;have f3:=ae hA;have HA:=hid hA;have e7:mb<w1.heap.size:=Nat.lt_of_lt_of_le a8 a3.size;have e8: ¬w.heap.size=mb:=by omega
  have b0: ¬mb=w.heap.size:=by omega
  have e5:w.heap.size+1≤bl:=by simpa using e3
  clear hA e4 z4 q0 q1 q2 q3 q4 q5 e0 e1 t2;go_wp2_with fail;go_end0;have s9:But (· =w.heap.size) w1 (w1.setCell ⟨w.heap.size,9,none⟩ (.pointer (some ⟨bl,0,none⟩))):=But.setB _ _ _ _;have s4:But (· =mb) (w1.setCell ⟨w.heap.size,9,none⟩ (.pointer (some ⟨bl,0,none⟩))) ((w1.setCell ⟨w.heap.size,9,none⟩ (.pointer (some ⟨bl,0,none⟩))).setCell ⟨mb,4,none⟩ (.pointer (some ⟨w.heap.size,0,none⟩))):=But.setB _ _ _ _;have e6:=heap_setCell_same w1 w.heap.size 9 _ _ (.pointer (some ⟨bl,0,none⟩)) HA.out;refine⟨rfl,w.heap.size,bl,lv,.slice al nL capl,.slice ai nI capi,((a3.mono (fun _ _ h=>h.elim)).next s9 (fun k hk e=>by have e:k=w.heap.size:=e;omega)).trans s4,((HM.out.but a3 nF).but s9 b0).set4 (some w.heap.size),?_,?_,?_,Nat.le_refl _,by omega,?_,?_,e2.out⟩
  ·rw[←HX.out];exact FbB.but e6 s4 e8
  ·exact(s4.block bl (by rw[bV];exact ae a1) (by show¬bl=mb;omega)).trans ((s9.block bl (ae a1) (by show¬bl=w.heap.size;omega)).trans a1)
  ·rw[b5];exact World.ownsRow.mono (ag (ag a7 s9 (fun k hk e=>by have:=aA a7 k hk;simp at this;have e:k=w.heap.size:=e;omega)) s4 (fun k hk e=>by have:=aA a7 k hk;simp at this;have e:k=mb:=e;omega)) (by simp)
  ·have:=b9.out;rw[show X.locals.length=nL from by rw[b4,b5]]at this;rw[←HX.out];exact this
  ·rw[←HX.out];exact c6.out
end
def uI (p:V×UInt8):Bool:=decide (p.2.toNat≠45)
theorem zG {zs:List (V×UInt8)} {k:Nat} {u:V} {y:UInt8} {t:List V} (h:zs[k]?=some (u,y)) (ht:((zs.take k).filter uI).map (·.1)=t):((zs.take (k+1)).filter uI).map (·.1)=if y.toNat=45 then t else t++ [u]:=by
 obtain⟨hk,he⟩:=List.getElem?_eq_some_iff.1 h;rw[List.take_succ_eq_append_getElem hk,List.filter_append,List.map_append,ht,he]
 by_cases e:y.toNat=45
 ·rw[if_pos e];simp[uI,e]
 ·rw[if_neg e];simp[uI,e]
theorem vD (w:World):(w.alloc (.cells #[] 168)).ownsRow w.heap.size 168 2 (.slice (some ⟨w.heap.size,0,none⟩) 0 0) 0 (au []):=
 ⟨rfl,Or.inr ⟨w.heap.size,0,#[],rfl,Nat.le_refl _,heap_alloc_new w _,by simp,by unfold maxLen;omega,rfl,rfl⟩⟩
theorem oA (w:World) (b1 cv ct:Nat) (av at':Option Addr) (vs:List V) (ty:List UInt8) (h1:w.ownsRow b1 168 2 (.slice av vs.length cv) vs.length (au vs)) (h2:BtB w 0 (.slice at' ty.length ct) ty) (h4:vs.length≤4000):
  Calls Tryz.prog 246 #[.slice av vs.length cv,.slice at' ty.length ct] w fun en w'=>But (fun _=>False) w w'∧ ∃v,en= .returned v∧w'.ownsRow w.heap.size 168 2 v (dg vs ty).length (au (dg vs ty)):=by
 obtain⟨i0,e0,e7,e8,e9⟩:=info_parts gE;obtain⟨zs,b0⟩: ∃zs,vs.zip ty=zs:=⟨_,rfl⟩;have hn:zs.length=min vs.length ty.length:=by rw[←b0];simp
 have HU:Hid (dg vs ty=(zs.filter uI).map (·.1)):=by show _=_;rw[←b0];rfl
 have HZ:Hid (∀k u y,vs[k]?=some u→ty[k]?=some y→zs[k]?=some (u,y)):=fun k u y a b=>by rw[←b0,List.getElem?_zip_eq_some];exact⟨a,b⟩
 rw[HU.out];clear b0 HU;obtain⟨RS,b4⟩: ∃RS,(zs.filter uI).map (·.1)=RS:=⟨_,rfl⟩;rw[b4];have HR:=hid b4;clear b4
 go_in
 go_wp2_with fail;have c6:But (fun _=>False) w (w.alloc (.cells #[] 168)):=But.alloc _ _ _
 go_loopg [5,6] zs.length (fun mm vt is wr=> ∃(ao:Option Addr) (cap k:Nat) (t:List V),vt= .slice ao t.length cap∧is= .int .i64 k∧k≤zs.length∧k+mm≤zs.length∧zs.length≤k+mm∧But (fun _=>False) w wr∧wr.ownsRow w.heap.size 168 2 (.slice ao t.length cap) t.length (au t)∧t.length≤k∧
  Hid (((zs.take k).filter uI).map (·.1)=t))
 case atStart=>exact⟨_,0,0,[],rfl,rfl,by omega,by omega,by omega,c6,vD w,by simp,rfl⟩
 case round=>
  obtain⟨ao,cap,k,t,rfl,rfl,f3,e3,f4,a2,a4,f5,HA⟩:=hrel;clear e3
  by_cases hlt:k<zs.length
  ·have b6:k<vs.length:=by omega
   have e4:k<ty.length:=by omega
   have e1:(k:Int)<(vs.length:Int):=by omega
   have e2:(k:Int)<(ty.length:Int):=by omega
   obtain⟨u,hu⟩: ∃u,vs[k]?=some u:=⟨_,List.getElem?_eq_getElem b6⟩;obtain⟨y,hy⟩: ∃y,ty[k]?=some y:=⟨_,List.getElem?_eq_getElem e4⟩;obtain⟨g1,r1,f1,_,a0⟩:=aI (ag h1 a2 (fun _ _ h=>h)) (by omega);obtain⟨g2,r2,f2,_,a1⟩:=aI (h2.but a2 (fun _ _ h=>h)) (by omega);subst r1 r2;have q0:wr.cell? ⟨g1,k*2,none⟩=some (.int .i32 (xN u)):=a0 _ _ (bq (k:=0) hu (by omega));have q1:wr.cell? ⟨g1,k*2+1,none⟩=some (.int .i64 (xO u)):=a0 _ _ (bq (k:=1) hu (by omega));have q2:wr.cell? ⟨g2,k,none⟩=some (.int .u8 y.toNat):=a1 _ _ (by rw[aM,List.getElem?_map,hy];rfl);have a8:=hid (zG (HZ.out k u y hu hy) HA.out);clear a0 a1 hu hy HA
   by_cases hyy:y.toNat=45
   ·have b9:(y.toNat:Int)=45:=by omega
    rw[b9]at q2;rw[if_pos hyy]at a8;have e6:=dE ((k:Int)+1) (by omega) (by omega);go_wp2_with fail
    go_roundg (zs.length-(k+1))
    case measure=>omega
    case rel=>exact⟨_,cap,k+1,t,rfl,by simp,by omega,by omega,by omega,a2,a4,by omega,a8.out⟩
   ·have b9:(y.toNat:Int)≠45:=by omega
    rw[if_neg hyy]at a8;have e6:=dE ((k:Int)+1) (by omega) (by omega);go_wp2_with (at_builtin;refine wpList_append_lies _ rfl _ _ _ rfl w.heap.size 168 i0 _ 2 16 (by kernel_rfl) e0 e7 e8 e9 rfl (by omega) _ t.length (au t) rfl (a4.alloc _) ⟨wr.heap.size,0,none⟩ 1 1 [.int .i32 (xN u),.int .i64 (xO u)] rfl rfl (World.news_of_block (cs:=#[.int .i32 (xN u),.int .i64 (xO u)]) (t:=168) (fr:=(0,0)) (heap_alloc_new wr _)) (by simp[Value.oneCell']) (by omega) (by unfold maxLen;omega) (by omega) (by have:=a2.size;simp;omega) (wr.heap.size+1) (by simp) ?_);intro gg a3 w2 a6 a5 f0 e5;have d6:But (fun k'=>(Value.slice ao t.length cap).ownBlock=some k') wr w2:=(But.alloc _ _ _).trans (bc a5)
    have b3:But (fun _=>False) w w2:=a2.next d6 (fun k' hk' h=>absurd (aA a4 k' h) (by omega))
    have b2:w2.ownsRow w.heap.size 168 2 (.slice (some ⟨gg,0,none⟩) (t++ [u]).length a3) (t++ [u]).length (au (t++ [u])):=by
     rw[List.length_append,dU];exact a6
    go_wp2_with fail
    go_roundg (zs.length-(k+1))
    case measure=>omega
    case rel=>exact⟨_,a3,k+1,t++ [u],by simp,by simp,by omega,by omega,by omega,b3,b2,by simp;omega,a8.out⟩
  ·have a7:RS=t:=by rw[←HR.out,←HA.out,List.take_of_length_le (by omega)]
   have b5:=hid a7;clear a7 HA
   by_cases b6:k<vs.length
   ·have e1:(k:Int)<(vs.length:Int):=by omega
    have e2: ¬(k:Int)<(ty.length:Int):=by omega
    go_wp2_with fail;exact b8 (.slice ao t.length cap) Tryz.results246 rfl rfl ⟨a2,_,rfl,by rw[b5.out];exact a4⟩
   ·have e1: ¬(k:Int)<(vs.length:Int):=by omega
    go_wp2_with fail;exact b8 (.slice ao t.length cap) Tryz.results246 rfl rfl ⟨a2,_,rfl,by rw[b5.out];exact a4⟩
theorem o9 (l m:List V):au (l++m)=au l++au m:=by simp[au]
theorem pb (l:List V): ∀u∈au l,u.oneCell'=true:=by
 intro u hu;obtain⟨x,_,hx⟩:=List.mem_flatMap.1 hu;simp only[io,List.mem_cons,List.not_mem_nil,or_false]at hx;rcases hx with h|h<;>(rw[h];rfl)
theorem th (w:World) (ty:TypeId) (base bx:Nat) (v xv:Value) (l m:List V) (hown:w.ownsRow base 168 2 v l.length (au l)) (hx:w.ownsRow bx 168 2 xv m.length (au m)) (hlen:l.length+m.length≤100000) (hbase:base≤w.heap.size):
  ∃v' w',(Builtin.append_ #[213,213] ty #[v,xv]).run Tryz.prog w= .ok v' w'∧w'.ownsRow base 168 2 v' (l++m).length (au (l++m))∧But (fun k=>v.ownBlock=some k) w w'∧(v'.ownBlock=v.ownBlock∨v'.ownBlock=some w.heap.size):=by
 obtain⟨i0,a1,a5,a2,a6⟩:=info_parts gE;have hu:Tryz.prog.underlying 213=some (.slice 168):=by kernel_rfl
 obtain⟨ax,cx,rfl⟩:=aw hx
 cases ax with
 |none=>
  have hm:m.length=0:=by
   rcases Nat.eq_zero_or_pos m.length with h|h
   ·exact h
   ·obtain⟨g,hg,_⟩:=aI hx h
    cases hg
  have a4:m=[]:=List.length_eq_zero_iff.1 hm;subst a4;obtain⟨ao,cap,rfl⟩:=aw hown
  have a3:l.length≤cap:=by
   rcases hown.2 with⟨h0,_⟩ | ⟨g',cap',cur,hv,_,_,hn,_⟩
   ·injection h0 with _ a b;omega
   ·injection hv with _ _ e3;omega
  refine⟨_,w,run_append_nothing w _ _ ty 168 i0 hu a1 ao l.length cap (by omega) _ (by rw[a2];exact Src.ofNil w hu cx),by simpa using hown,But.refl _ _,Or.inl rfl⟩
 |some ad=>
  have a0: ∀j u,(au m)[j]?=some u→w.cell? (ad.add j)=some u:=by
   intro j u hj;obtain⟨g,cap',hv,hc,_⟩:=iu hx hj
   have h1:ad=⟨g,0,none⟩:=by
    have h2:=congrArg (fun v=>match v with|Value.slice a _ _=>a|_=>none) hv;exact Option.some.inj h2
   rw[h1];have e:(⟨g,0,none⟩:Addr).add j=⟨g,j,none⟩:=by simp[Addr.add];exact fun h=>h.symm
   rw[e];exact hc
  obtain⟨v',w',hr,h2,h3,_,h5⟩:=run_append_own_at (P:=Tryz.prog) w base _ ty 168 i0 _ 2 16 hu a1 a5 a2 a6 rfl (by omega) v l.length (au l) hown ad m.length cx (au m) (dn m) a0 (pb m) (by unfold maxLen;omega) (by omega) hbase;refine⟨v',w',hr,?_,bc h3,h5⟩;rw[o9,List.length_append];exact h2
theorem jT {w:World} {ops:Array Oper} {rest:List Oper} {o:Oper} {a:Act} {Q:Exit→Act→World→Prop} (hgd:o.guard=none) (s x:Operand)
  (ho:o.op= .call {callee:= .builtin .append,args:=#[s,x],argTypes:=#[213,213]}) (base bx:Nat) (v xv:Value) (l m:List V) (hs:a.eval s=v) (hx:a.eval x=xv) (hown:w.ownsRow base 168 2 v l.length (au l)) (hxo:w.ownsRow bx 168 2 xv m.length (au m)) (hlen:l.length+m.length≤100000) (hbase:base≤w.heap.size)
  (h: ∀ao cap w',w'.ownsRow base 168 2 (.slice ao (l++m).length cap) (l++m).length (au (l++m))→But (fun k=>v.ownBlock=some k) w w'→((Value.slice ao (l++m).length cap).ownBlock=v.ownBlock∨(Value.slice ao (l++m).length cap).ownBlock=some w.heap.size)→wpList Tryz.prog ops Q rest (a.put o.dst (.slice ao (l++m).length cap)) w'):wpList Tryz.prog ops Q (o::rest) a w:=by
 refine wpList_plain hgd fun K hK=> ?_
 obtain⟨v',w',hr,h1,h2,h3⟩:=th w o.type base bx v xv l m hown hxo hlen hbase;obtain⟨ao,cap,rfl⟩:=aw h1;unfold Oper.wp execOp;simp only[ho,resolve,invoke,builtin,Sem.run_bind,Sem.run_pure,Result.andThen_ok,List.map_toArray,List.map_cons,List.map_nil,hs,hx,hr];exact hK _ _ (h ao cap w' h1 h2 h3)
section
variable (w:World) (fb d pc bl sg base:Nat) (ca:Option Nat) (X:bz) (vl vi sv lv:Value) (stk loc:List V) (tab:List St)
theorem fA (vs:List V) (ts:List UInt8):(dg vs ts).length≤vs.length:=by
 unfold dg;rw[List.length_map];refine Nat.le_trans (List.length_filter_le _ _) ?_;rw[List.length_zip];omega
theorem xL (h:FbB w fb ca d X vl vi (.slice (some ⟨sg,0,none⟩) tab.length tab.length) pc bl sv) (hs:StB w sg tab) (st lo:List UInt8) (hpc:tab[pc]?=some (some (st,lo))) (hb:w.heap[bl]?=some (.cells #[lv] 280))
  (ho:w.ownsRow base 168 2 sv stk.length (au stk)) (hl:w.ownsRow base 168 2 lv loc.length (au loc)) (h4:stk.length≤4000) (h5:loc.length≤4000) (h6:tab.length≤100):
  Calls Tryz.prog 229 #[.pointer (some ⟨fb,0,none⟩)] w fun en w'=>But (fun _=>False) w w'∧ ∃v,en= .returned v∧w'.ownsRow w.heap.size 168 2 v (dg stk st++dg loc lo).length (au (dg stk st++dg loc lo)):=by
 obtain⟨L,hg,hL,hx⟩:=hs;have f1:pc<tab.length:=(List.getElem?_eq_some_iff.1 hpc).1;rw[←hL,List.getElem?_map]at hpc;obtain⟨⟨x,vs,vo⟩,a6,e6⟩:=Option.map_eq_some_iff.1 hpc;simp only at e6;subst e6;obtain⟨bs,bo⟩:=hx _ (List.mem_of_getElem? a6) st lo rfl;simp only at bs bo;obtain⟨aS,cs,rfl⟩:=aw bs;obtain⟨ao,co,rfl⟩:=aw bo;obtain⟨av,cv,rfl⟩:=aw ho;obtain⟨al,cl,rfl⟩:=aw hl;have cc: ∀k v,(dW L)[k]?=some v→w.cell? ⟨sg,k,none⟩=some v:=fun k v hk=>by rw[cell_of_row w sg k _ _ (0,0) hg];simpa using hk
 have q0:w.cell? ⟨sg,pc*3,none⟩=some (.bool true):=cc _ _ (bZ (k:=0) a6 (by omega));have q1:w.cell? ⟨sg,pc*3+1,none⟩=some (.slice aS st.length cs):=cc _ _ (bZ (k:=1) a6 (by omega));have q2:w.cell? ⟨sg,pc*3+2,none⟩=some (.slice ao lo.length co):=cc _ _ (bZ (k:=2) a6 (by omega));have b6:=ae hg;have a2:=h.lt;have e5:=ae hb;have c7:=h.c7;have c8:=h.c8;have c9:=h.c9;have c10:=h.c10;have b0:=ce0 hb;have n0: ¬((pc:Int)<0):=by omega
 have n1: ¬((tab.length:Int)≤(pc:Int)):=by omega
 have n2:(0:Int)≤(pc:Int):=by omega
 have n3:(pc:Int)<(tab.length:Int):=by omega
 have c6:=hid (fun(Y:World) (hY:But (fun _=>False) w Y)=>oA Y base cv cs av aS stk st (ag ho hY (fun _ _ h=>h)) (bs.but hY (fun _ _ h=>h)) h4);have d6:=hid (fun(Y:World) (hY:But (fun _=>False) w Y)=>oA Y base cl co al ao loc lo (ag hl hY (fun _ _ h=>h)) (bo.but hY (fun _ _ h=>h)) h5);have f2:=fA stk st;have f3:=fA loc lo;clear h hb ho hl hg cc a6 hpc hx bs bo hL;generalize tab.length=nt at*;generalize dg stk st=us at*;generalize dg loc lo=ul at*
 go_in
 go_wp2_with fail;have a0:But (fun _=>False) w w.drew:=But.drew _ _;refine aD (But (fun _=>False) w) 17 (by kernel_rfl) ?_
 iterate 17 (refine aJ (v:=?_) rfl (by kernel_rfl) (fun _ _ _ h=>h) rfl a0 ?_ ?_;rotate_left;(focus (intro wS h;have q0:=((h.cell (p:=⟨fb,8,none⟩) a2 nF).trans c8);have q1:=((h.cell (p:=⟨fb,7,none⟩) a2 nF).trans c7);clear h;go_simp;try rfl));dsimp only[Act.put];try simp only[aL])
 refine aH rfl (by kernel_rfl) ?_;clear a0;have HD:=hid (But.drew (fun _=>False) w);go_wp2_with fail;have a0:But (fun _=>False) w w.drew.drew:=HD.out.trans (But.drew _ _);clear HD;refine aD (But (fun _=>False) w) 11 (by kernel_rfl) ?_
 iterate 10 (refine aJ (v:=?_) rfl (by kernel_rfl) (fun _ _ _ h=>h) rfl a0 ?_ ?_;rotate_left;(focus (intro wS h;have Q0:=((h.cell (p:=⟨fb,8,none⟩) a2 nF).trans c8);have Q1:=((h.cell (p:=⟨fb,7,none⟩) a2 nF).trans c7);have Q2:=((h.cell (p:=⟨sg,pc*3,none⟩) b6 nF).trans q0);have Q3:=((h.cell (p:=⟨sg,pc*3+1,none⟩) b6 nF).trans q1);have Q4:=((h.cell (p:=⟨sg,pc*3+2,none⟩) b6 nF).trans q2);clear h;go_simp;try rfl));dsimp only[Act.put];try simp only[aL])
 generalize w.drew.drew=Y at*;refine ah rfl (by kernel_rfl) ?_;intro KS hKS;go_simp;have a8:But (fun _=>False) w (Y.alloc (.cells #[.bool false,.slice none 0 0,.slice none 0 0] 117)):=a0.trans (But.alloc _ _ _);refine hKS.out _ _ (fun _=>a8) ?_;clear hKS KS;have hA:=heap_alloc_new Y (.cells #[.bool false,.slice none 0 0,.slice none 0 0] 117);revert hA a8;generalize (Y.alloc (.cells #[.bool false,.slice none 0 0,.slice none 0 0] 117))=Z;intro a8 hA;have f0:w.heap.size≤Y.heap.size:=a0.size;generalize Y.heap.size=r at*;have y0:=ce0 hA;have y1:=ce1 hA;have y2:=ce2 hA;have z0:=frozen_of_row Z r 0 _ _ hA
 have z1:=frozen_of_row Z r 1 _ _ hA;have z2:=frozen_of_row Z r 2 _ _ hA;have a3:=ae hA;refine ah rfl (by kernel_rfl) ?_;intro KS hKS;go_simp;refine hKS.out _ _ nofun ?_;clear hKS KS;refine aH rfl (by kernel_rfl) ?_;clear y0 y1 y2 z0 z1 z2 a3;have hT:But (fun _=>False) w (((Z.setCell ⟨r,0,none⟩ (.bool true)).setCell ⟨r,1,none⟩ (.slice aS st.length cs)).setCell ⟨r,2,none⟩ (.slice ao lo.length co)):=a8.next (((But.setB _ _ _ _).trans (But.setB _ _ _ _)).trans (But.setB _ _ _ _)) (fun k hk e=>by have e:k=r:=e;omega);have a4:(((Z.setCell ⟨r,0,none⟩ (.bool true)).setCell ⟨r,1,none⟩ (.slice aS st.length cs)).setCell ⟨r,2,none⟩ (.slice ao lo.length co)).heap[r]?=some (.cells #[.bool true,.slice aS st.length cs,.slice ao lo.length co] 117):=heap_setCell_same _ r 2 _ _ _ (heap_setCell_same _ r 1 _ _ _ (heap_setCell_same _ r 0 _ _ _ hA))
 revert hT a4;generalize (((Z.setCell ⟨r,0,none⟩ (.bool true)).setCell ⟨r,1,none⟩ (.slice aS st.length cs)).setCell ⟨r,2,none⟩ (.slice ao lo.length co))=W;intro hT a4;clear a8 hA a0 q0 q1 q2 c7 c8;have x1:=ce1 a4;have x2:=ce2 a4;have a3:=ae a4;have k9:=(hT.cell (p:=⟨fb,9,none⟩) a2 nF).trans c9;have e7:=(hT.cell (p:=⟨fb,10,none⟩) a2 nF).trans c10;have kb:=(hT.cell (p:=⟨bl,0,none⟩) e5 nF).trans b0;have b1:=Nat.lt_of_lt_of_le a2 hT.size;have b4:=Nat.lt_of_lt_of_le e5 hT.size;clear a4 c9 c10 b0;go_wp2_with fail;have a0:But (fun _=>False) W W.drew:=But.drew _ _;refine aD (But (fun _=>False) W) 8 (by kernel_rfl) ?_
 iterate 6 (refine aJ (v:=?_) rfl (by kernel_rfl) (fun _ _ _ h=>h) rfl a0 ?_ ?_;rotate_left;(focus (intro wS h;have q0:=((h.cell (p:=⟨fb,10,none⟩) b1 nF).trans e7);have q1:=((h.cell (p:=⟨r,1,none⟩) a3 nF).trans x1);clear h;go_simp;try rfl));dsimp only[Act.put];try simp only[aL])
 refine ah rfl (by kernel_rfl) ?_;intro KS hKS;go_simp;refine(c6.out _ (hT.trans a0)).mono ?_;rintro en w1 ⟨b2,v1,rfl,e0⟩;refine hKS.out _ _ (fun _=>a0.trans b2) ?_;clear hKS KS;refine ah rfl (by kernel_rfl) ?_;intro KS hKS;go_simp;refine hKS.out _ _ (fun _=>a0.trans b2) ?_;clear hKS KS;refine aH rfl (by kernel_rfl) ?_;have a1:=a0.trans b2;have e3:=hT.trans a1;replace x2:=(a1.cell (p:=⟨r,2,none⟩) a3 nF).trans x2;replace k9:=(a1.cell (p:=⟨fb,9,none⟩) b1 nF).trans k9;replace kb:=(a1.cell (p:=⟨bl,0,none⟩) b4 nF).trans kb;replace a3:=Nat.lt_of_lt_of_le a3 a1.size;replace b1:=Nat.lt_of_lt_of_le b1 a1.size
 replace b4:=Nat.lt_of_lt_of_le b4 a1.size;have a7:w1.ownsRow w.heap.size 168 2 v1 us.length (au us):=World.ownsRow.mono e0 (hT.trans a0).size;clear e0 b2 a0 x1 e7 c6;go_wp2_with fail;have a0:But (fun _=>False) w1 w1.drew:=But.drew _ _;refine aD (But (fun _=>False) w1) 11 (by kernel_rfl) ?_
 iterate 9 (refine aJ (v:=?_) rfl (by kernel_rfl) (fun _ _ _ h=>h) rfl a0 ?_ ?_;rotate_left;(focus (intro wS h;have q0:=((h.cell (p:=⟨fb,9,none⟩) b1 nF).trans k9);have q1:=((h.cell (p:=⟨r,2,none⟩) a3 nF).trans x2);have q2:=((h.cell (p:=⟨bl,0,none⟩) b4 nF).trans kb);clear h;go_simp;try rfl));dsimp only[Act.put];try simp only[aL])
 refine ah rfl (by kernel_rfl) ?_;intro KS hKS;go_simp;refine(d6.out _ (e3.trans a0)).mono ?_;rintro en w2 ⟨b3,v2,rfl,e1⟩;refine hKS.out _ _ (fun _=>a0.trans b3) ?_;clear hKS KS;refine ah rfl (by kernel_rfl) ?_;intro KS hKS;go_simp;refine hKS.out _ _ (fun _=>a0.trans b3) ?_;clear hKS KS;refine aH rfl (by kernel_rfl) ?_;have a5:=a0.trans b3;have e4:=e3.trans a5;have b5:=ag a7 a5 (fun _ _ h=>h);clear a7 a0 b3 x2 k9 kb d6;go_wp2_with (at_builtin;refine jT rfl _ _ rfl w.heap.size _ v1 v2 us ul rfl rfl b5 e1 (by omega) e4.size ?_);intro aj cj w3 e2 e8 _;have b9:=hid e2;have e9:But (fun _=>False) w w3:=e4.next e8 (fun k hk h=>by have:=aA b5 k h;omega)
 clear e2 b5 e1;go_wp2_with fail;exact b8 (.slice aj (us.length+ul.length) cj) Tryz.results229 rfl rfl ⟨e9,_,rfl,by first|exact b9.out| (rw[List.length_append];exact b9.out)⟩
end
def cQ (gs:List Nat) (F:List Nat):List Value:=F.map fun k=> .pointer (some ⟨gs.getD k 0,0,none⟩)
theorem ti:(Tryz.prog.info? 315).map (fun i=>(i.zero,i.size,i.bytes))=some (some (.pointer none),1,8):=by kernel_rfl
theorem AN (w:World) (gs:List Nat):(w.alloc (.cells #[] 315)).ownsRow w.heap.size 315 1 (.slice (some ⟨w.heap.size,0,none⟩) 0 0) 0 (cQ gs []):=
 ⟨rfl,Or.inr ⟨w.heap.size,0,#[],rfl,Nat.le_refl _,heap_alloc_new w _,by simp,by unfold maxLen;omega,rfl,rfl⟩⟩
section
variable {P:Nat→Prop} {w0 w w':World} {bw tx:Nat} {inp:ByteArray} {s:Ev} {vo vb:Value} {gs:List Nat} {fv:List Value} {cn:Int} {sn:Nat→Int}
theorem WdQ.mark (h:WdQ P w0 w bw tx inp s vo vb gs fv cn sn) {k g:Nat} (hg:gs[k]?=some g):WdQ P w0 (w.setCell ⟨g,2,none⟩ (.int .i64 cn)) bw tx inp s vo vb gs fv cn (fun j=>if j=k then cn else sn j):=by
 have hk:k<s.heap.length:=by rw[←h.lg];exact(List.getElem?_eq_some_iff.1 hg).1
 obtain⟨o,g',v,h1,h2,h3,h4,h5⟩:=h.obj hk;rw[hg]at h2
 cases h2
 have hB:=But.setB w g 2 (.int .i64 cn);have a:=h.stand h4 (h.k7 (List.mem_of_getElem? hg)).1 (h.k7 (List.mem_of_getElem? hg)).2 hB;refine⟨a.old,a.wd (by decide),a.out (by decide),a.ob (by decide),h.lg,h.lf,fun j o' q v' x y z=>⟨?_,a.fld (by decide) j o' q v' x y z⟩,h.nd,h.own,a.pl,h.sf,h.se.1,fun j=> ?_⟩
 ·by_cases e:j=k
  ·subst e;rw[hg]at y
   cases y
   rw[h1]at x
   cases x
   rw[h3]at z
   cases z
   simp only[if_true];exact heap_setCell_same w g 2 _ _ _ h4
  ·simp only[if_neg e];have x1:=(h.obs j o' q v' x y z).1;exact(hB.block q (ae x1) (fun e'=>e (h.nd j k g (by rw[y,e']) hg))).trans x1
 ·show 0≤(if j=k then cn else sn j)∧(if j=k then cn else sn j)≤cn
  split
  ·exact⟨h.se.1,Int.le_refl _⟩
  ·exact h.se.2 j
theorem oB (h:WdQ P w0 w bw tx inp s vo vb gs fv cn sn) (h4:s.heap.length≤4000) (hcn:cn≤1000000) (b1 ca:Nat) (av:Option Addr) (vs:List V) (hv:w.ownsRow b1 168 2 (.slice av vs.length ca) vs.length (au vs)) (hvl:vs.length≤90000)
  (hok: ∀u∈vs,(∃n,u= .i n)∨u= .z∨ ∃k,u= .o k∧k<s.heap.length) (L:List Nat) (hL: ∀j,j<s.heap.length→(sn j=cn↔j∈L)):
  Calls Tryz.prog 247 #[.pointer (some ⟨bw,0,none⟩),.slice av vs.length ca] w fun en w'=>But (· ∈gs) w w'∧ ∃v,en= .returned v∧w'.ownsRow w.heap.size 315 1 v (jp L vs).length (cQ gs (jp L vs))∧ ∃sn',WdQ P w0 w' bw tx inp s vo vb gs fv cn sn'∧ ∀j,j<s.heap.length→(sn' j=cn↔j∈L++jp L vs):=by
 obtain⟨i0,h5,i3,i4,i5⟩:=info_parts ti;obtain⟨RS,e9⟩: ∃RS,jp L vs=RS:=⟨_,rfl⟩;rw[e9];have HR:=hid e9;clear e9;have h0:But (· ∈gs) w (w.alloc (.cells #[] 315)):=But.alloc _ _ _;have h9:=fun g (hg:g∈gs)=>h.mg hg
 have f4: ∀wr,But (· ∈gs) w wr→wr.ownsRow b1 168 2 (.slice av vs.length ca) vs.length (au vs):=fun wr hb=>ag hv hb (fun k hk hg=>by obtain⟨c,v,q,ho⟩:=h.mg hg;exact aC hv ho (by decide) hk)
 have g6:=hid (h.new (But.alloc (fun _=>False) w (.cells #[] 315)));have HL:=hid hL;have g3:=hid hok;have g0:=hid f4;have HG:Hid (∀k,k∈gs→k<w.heap.size):=fun k hk=>h.lt (Or.inr (Or.inr (Or.inr (Or.inl hk))))
 have g2:Hid (∀k',ov bw vo vb gs fv k'→k'<w.heap.size):=fun k hk=>h.lt hk
 have g4:Hid (∀k',P k'→k'<w.heap.size):=fun k hk=>(h.pl k hk).1
 have i2:=h.old.size;clear hL hok f4 h9 h hv
 go_in
 go_wp2_with fail
 go_loopg [5,6] vs.length (fun mm vt is wr=> ∃(ao:Option Addr) (cap k:Nat) (F:List Nat) (sn':Nat→Int),vt= .slice ao F.length cap∧is= .int .i64 k∧k≤vs.length∧k+mm≤vs.length∧vs.length≤k+mm∧But (· ∈gs) w wr∧Hid (WdQ P w0 wr bw tx inp s vo vb gs fv cn sn')∧wr.ownsRow w.heap.size 315 1 (.slice ao F.length cap) F.length (cQ gs F)∧F.length≤k∧
  Hid (jp L (vs.take k)=F)∧Hid (∀j,j<s.heap.length→(sn' j=cn↔j∈L++F)))
 case atStart=>exact⟨_,0,0,[],sn,rfl,rfl,by omega,by omega,by omega,h0,g6,AN w gs,by simp,rfl,by simpa using HL⟩
 case round=>
  obtain⟨ao,cap,k,F,sn',rfl,rfl,j0,h6,j1,e2,HW,e7,j2,HA,HS⟩:=hrel;clear h6
  by_cases hlt:k<vs.length
  ·have e1:(k:Int)<(vs.length:Int):=by omega
   obtain⟨u,hu⟩: ∃u,vs[k]?=some u:=⟨_,List.getElem?_eq_getElem hlt⟩;obtain⟨g1,r1,i7,_,a1⟩:=aI (g0.out wr e2) (by omega);subst r1;have q0:wr.cell? ⟨g1,k*2,none⟩=some (.int .i32 (xN u)):=a1 _ _ (bq (k:=0) hu (by omega));have q1:wr.cell? ⟨g1,k*2+1,none⟩=some (.int .i64 (xO u)):=a1 _ _ (bq (k:=1) hu (by omega));have b2:=hid (wM hu HA.out);have j3:=dE ((k:Int)+1) (by omega) (by omega);have f3:=g3.out u (List.mem_of_getElem? hu)
   have h2:(Hid (Calls Tryz.prog 245 #[.pointer (some ⟨bw,0,none⟩),.agg #[.int .i32 (xN u),.int .i64 (xO u)]] wr fun en w'=>But (fun _=>False) wr w'∧en= .returned (.pointer none))∧Hid (ly L F u=F))∨ ∃j g,Hid (u= .o j)∧Hid (j<s.heap.length)∧Hid (gs[j]?=some g)∧Hid (Calls Tryz.prog 245 #[.pointer (some ⟨bw,0,none⟩),.agg #[.int .i32 (xN u),.int .i64 (xO u)]] wr fun en w'=>But (fun _=>False) wr w'∧en= .returned (.pointer (some ⟨g,0,none⟩))):=by
    have c6:=ip HW.out u f3 h4;unfold aG at c6;rcases f3 with⟨n,rfl⟩ |rfl| ⟨j,rfl,hj⟩
    ·exact Or.inl ⟨c6,rfl⟩
    ·exact Or.inl ⟨c6,rfl⟩
    ·obtain⟨g,hg⟩: ∃g,gs[j]?=some g:=⟨_,List.getElem?_eq_getElem (show j<gs.length by rw[HW.out.lg];exact hj)⟩;simp only[hg,Option.map_some]at c6;exact Or.inr ⟨j,g,rfl,hj,hg,c6⟩
   clear a1 hu HA f3;rcases h2 with⟨b4,b3⟩ | ⟨j,g,f6,HJ,e0,b4⟩
   ·rw[b3.out]at b2;go_wp2_with fail;refine b4.out.mono ?_;rintro en w1 ⟨a7,rfl⟩;clear b4 q0 q1;have a4:=hid (HW.out.new a7);have a3:=ag e7 a7 (fun _ _ h=>h);have a2:But (· ∈gs) w w1:=e2.trans (a7.mono (fun _ _ h=>h.elim));go_wp2_with fail
    go_quiet (fail)
    go_wp2_with fail;have a0:=But.drewN (fun _=>False) w1 nq
    go_roundg (vs.length-(k+1))
    case measure=>omega
    case rel=>exact⟨_,cap,k+1,F,sn',rfl,by simp,by omega,by omega,by omega,a2.trans (a0.mono (fun _ _ h=>h.elim)),a4.out.new a0,ag a3 a0 (fun _ _ h=>h),by omega,b2.out,HS.out⟩
   ·go_wp2_with fail;refine b4.out.mono ?_;rintro en w1 ⟨a7,rfl⟩;clear b4 q0 q1;have a4:=hid (HW.out.new a7);have a3:=ag e7 a7 (fun _ _ h=>h);have a2:But (· ∈gs) w w1:=e2.trans (a7.mono (fun _ _ h=>h.elim));obtain⟨o,g',v,o1,o2,o3,o4,o5⟩:=a4.out.obj HJ.out;rw[e0.out]at o2
    cases o2
    have m2:=ce2 o4;have f2:=frozen_of_row w1 g 2 _ _ o4;have c5:=a4.out.wd.c5;have e4:=ae o4;have b0:=a4.out.wd.lt;clear o1 o3 o4 o5
    by_cases hs:sn' j=cn
    ·rw[hs]at m2
     have b3:Hid (ly L F u=F):=by
      show _=_
      rw[f6.out];exact if_pos ((HS.out j HJ.out).1 hs)
     rw[b3.out]at b2;go_wp2_with fail
     go_quiet (fail)
     go_wp2_with fail;have a0:=But.drewN (fun _=>False) w1 nq
     go_roundg (vs.length-(k+1))
     case measure=>omega
     case rel=>exact⟨_,cap,k+1,F,sn',rfl,by simp,by omega,by omega,by omega,a2.trans (a0.mono (fun _ _ h=>h.elim)),a4.out.new a0,ag a3 a0 (fun _ _ h=>h),by omega,b2.out,HS.out⟩
    ·have b3:Hid (ly L F u=F++ [j]):=by
      show _=_
      rw[f6.out];exact if_neg (fun h=>hs ((HS.out j HJ.out).2 h))
     rw[b3.out]at b2;go_wp2_with fail
     go_quiet (fail)
     have a0:=But.drewN (fun _=>False) w1 nq;have f7:=hid (a4.out.new a0);have b9:=ag a3 a0 (fun _ _ h=>h);have e5:But (· ∈gs) w (w1.drewN nq):=a2.trans (a0.mono (fun _ _ h=>h.elim));replace m2:=(a0.cell (p:=⟨g,2,none⟩) e4 nF).trans m2;replace f2:=(a0.frozen (p:=⟨g,2,none⟩) e4 nF).trans f2;replace c5:=(a0.cell (p:=⟨bw,5,none⟩) b0 nF).trans c5;replace e4:=Nat.lt_of_lt_of_le e4 a0.size;replace b0:=Nat.lt_of_lt_of_le b0 a0.size;clear a0 a4 a3 a2;generalize w1.drewN nq=w2 at*;have f8:=hid (f7.out.mark e0.out);have f9:g∈gs:=List.mem_of_getElem? e0.out;have b6:But (· ∈gs) w (w2.setCell ⟨g,2,none⟩ (.int .i64 cn)):=e5.trans ((But.setB w2 g 2 _).mono (fun k _ e=>by have e:k=g:=e;rw[e];exact f9))
     have a8:(w2.setCell ⟨g,2,none⟩ (.int .i64 cn)).ownsRow w.heap.size 315 1 (.slice ao F.length cap) F.length (cQ gs F):=ag b9 (But.setB w2 g 2 _) (fun k hk e=>by have e:k=g:=e;have:=aA b9 k hk;have:=HG.out g f9;omega);have i1:w.heap.size≤(w2.setCell ⟨g,2,none⟩ (.int .i64 cn)).heap.size:=b6.size;have f1:(w2.setCell ⟨g,2,none⟩ (.int .i64 cn)).heap.size=w2.heap.size:=bV _ _ _;have h1:(sn' j !=cn)=true:=by simpa using hs
     have h3:gs.getD j 0=g:=by rw[List.getD_eq_getElem?_getD,e0.out];rfl
     go_wp2_with (at_builtin;refine wpList_append_lies _ rfl _ _ _ rfl w.heap.size 315 i0 _ 1 8 (by kernel_rfl) h5 i3 i4 i5 rfl (by omega) _ F.length (cQ gs F) rfl (a8.alloc _) ⟨w2.heap.size,0,none⟩ 1 1 [.pointer (some ⟨g,0,none⟩)] rfl rfl (World.news_of_block (cs:=#[.pointer (some ⟨g,0,none⟩)]) (t:=315) (fr:=(0,0)) (aq (by rw[f1]) _)) (by simp[Value.oneCell']) (by omega) (by unfold maxLen;omega) (by omega) (by simp only[World.size_alloc];omega) (w2.heap.size+1) (by simp) ?_);intro gg b5 w4 a6 a5 i6 h8;have f0:But (fun k'=>(Value.slice ao F.length cap).ownBlock=some k') (w2.setCell ⟨g,2,none⟩ (.int .i64 cn)) w4:=(But.alloc _ _ _).trans (bc a5)
     have e3: ∀k',(Value.slice ao F.length cap).ownBlock=some k'→w.heap.size≤k':=fun k' h=>aA a8 k' h
     have e6:But (· ∈gs) w w4:=b6.next f0 (fun k' hk' h=>absurd (e3 k' h) (by omega));have h7: ∀k',ov bw vo vb gs fv k'→k'<w.heap.size:=g2.out;have g7:Hid (WdQ P w0 w4 bw tx inp s vo vb gs fv cn (fun i=>if i=j then cn else sn' i)):=f8.out.but f0 (fun k' h=>by have:=e3 k' h;omega) (fun k' hk' h=>by have:=e3 k' h;have:=h7 k' hk';omega) (fun k' hk' h=>by have:=e3 k' h;have:=g4.out k' hk';omega)
     have e8:w4.ownsRow w.heap.size 315 1 (.slice (some ⟨gg,0,none⟩) (F++ [j]).length b5) (F++ [j]).length (cQ gs (F++ [j])):=by
      rw[List.length_append,cQ,List.map_append];simp only[List.map_cons,List.map_nil,h3];exact a6
     have g5:Hid (∀i,i<s.heap.length→((if i=j then cn else sn' i)=cn↔i∈L++(F++ [j]))):=fun i hi=>by
      by_cases e:i=j
      ·simp[e]
      ·rw[if_neg e,HS.out i hi];simp[e]
     clear a6 a5 f0 f8 a8 HS HW f7;go_wp2_with fail
     go_roundg (vs.length-(k+1))
     case measure=>omega
     case rel=>exact⟨_,b5,k+1,F++ [j],_,by simp,by simp,by omega,by omega,by omega,e6,g7,e8,by simp;omega,b2,g5⟩
  ·have d6:RS=F:=by rw[←HR.out,←HA.out,List.take_of_length_le (by omega)]
   have f5:=hid d6;clear d6 HA;have e1: ¬(k:Int)<(vs.length:Int):=by omega
   go_wp2_with fail;exact b8 (.slice ao F.length cap) Tryz.results247 rfl rfl ⟨e2,_,rfl,by rw[f5.out];exact e7,sn',HW.out,by rw[f5.out];simpa only[List.mem_append]using HS.out⟩
end
theorem mH (b:Nat) (cs:List bA) (c:UInt8) (w:World) (hn:cs.length≤100) (hT:TxC w b cs) (hf:(bI cs c).length≤1000):
  Calls Tryz.prog 231 #[.pointer (some ⟨b,0,none⟩),.int .u8 c.toNat] w fun e w'=>e= .returned (.int .i64 (1+(bI cs c).length:Nat))∧w'=w:=by
 have HF:=hid (lh b cs c w hn hT);have a0:=dE (1+((bI cs c).length:Int)) (by omega) (by omega)
 go_in
 go_wp2_with fail;refine HF.out.mono ?_;rintro en w1 ⟨rfl,rfl⟩;go_wp2_with fail;go_ret;exact⟨by simp,rfl⟩
theorem uJ (gs l m:List Nat):cQ gs (l++m)=cQ gs l++cQ gs m:=by simp[cQ]
theorem uK (gs l:List Nat):(cQ gs l).length=l.length*1:=by simp[cQ]
theorem uL (gs l:List Nat): ∀u∈cQ gs l,u.oneCell'=true:=by
 intro u hu;obtain⟨x,_,rfl⟩:=List.mem_map.1 hu
 rfl
theorem tj (w:World) (ty:TypeId) (base bx:Nat) (v xv:Value) (gs l m:List Nat) (hown:w.ownsRow base 315 1 v l.length (cQ gs l)) (hx:w.ownsRow bx 315 1 xv m.length (cQ gs m)) (hlen:l.length+m.length≤100000) (hbase:base≤w.heap.size):
  ∃v' w',(Builtin.append_ #[209,209] ty #[v,xv]).run Tryz.prog w= .ok v' w'∧w'.ownsRow base 315 1 v' (l++m).length (cQ gs (l++m))∧But (fun k=>v.ownBlock=some k) w w':=by
 obtain⟨i0,a1,a5,a2,a6⟩:=info_parts ti;have hu:Tryz.prog.underlying 209=some (.slice 315):=by kernel_rfl
 obtain⟨ax,cx,rfl⟩:=aw hx
 cases ax with
 |none=>
  have hm:m.length=0:=by
   rcases Nat.eq_zero_or_pos m.length with h|h
   ·exact h
   ·obtain⟨g,hg,_⟩:=aI hx h
    cases hg
  have a4:m=[]:=List.length_eq_zero_iff.1 hm;subst a4;obtain⟨ao,cap,rfl⟩:=aw hown
  have a3:l.length≤cap:=by
   rcases hown.2 with⟨h0,_⟩ | ⟨g',cap',cur,hv,_,_,hn,_⟩
   ·injection h0 with _ a b;omega
   ·injection hv with _ _ e3;omega
  refine⟨_,w,run_append_nothing w _ _ ty 315 i0 hu a1 ao l.length cap (by omega) _ (by rw[a2];exact Src.ofNil w hu cx),by simpa using hown,But.refl _ _⟩
 |some ad=>
  have a0: ∀j u,(cQ gs m)[j]?=some u→w.cell? (ad.add j)=some u:=by
   intro j u hj;obtain⟨g,cap',hv,hc,_⟩:=iu hx hj
   have h1:ad=⟨g,0,none⟩:=by
    have h2:=congrArg (fun v=>match v with|Value.slice a _ _=>a|_=>none) hv;exact Option.some.inj h2
   rw[h1];have e:(⟨g,0,none⟩:Addr).add j=⟨g,j,none⟩:=by simp[Addr.add];exact fun h=>h.symm
   rw[e];exact hc
  obtain⟨v',w',hr,h2,h3,_,h5⟩:=run_append_own_at (P:=Tryz.prog) w base _ ty 315 i0 _ 1 8 hu a1 a5 a2 a6 rfl (by omega) v l.length (cQ gs l) hown ad m.length cx (cQ gs m) (uK gs m) a0 (uL gs m) (by unfold maxLen;omega) (by omega) hbase;refine⟨v',w',hr,?_,bc h3⟩;rw[uJ,List.length_append];exact h2
theorem oC {w:World} {ops:Array Oper} {rest:List Oper} {o:Oper} {a:Act} {Q:Exit→Act→World→Prop} (hgd:o.guard=none) (s x:Operand)
  (ho:o.op= .call {callee:= .builtin .append,args:=#[s,x],argTypes:=#[209,209]}) (base bx:Nat) (v xv:Value) (gs l m:List Nat) (hs:a.eval s=v) (hx:a.eval x=xv) (hown:w.ownsRow base 315 1 v l.length (cQ gs l)) (hxo:w.ownsRow bx 315 1 xv m.length (cQ gs m)) (hlen:l.length+m.length≤100000) (hbase:base≤w.heap.size)
  (h: ∀ao cap w',w'.ownsRow base 315 1 (.slice ao (l++m).length cap) (l++m).length (cQ gs (l++m))→But (fun k=>v.ownBlock=some k) w w'→wpList Tryz.prog ops Q rest (a.put o.dst (.slice ao (l++m).length cap)) w'):wpList Tryz.prog ops Q (o::rest) a w:=by
 refine wpList_plain hgd fun K hK=> ?_
 obtain⟨v',w',hr,h1,h2⟩:=tj w o.type base bx v xv gs l m hown hxo hlen hbase;obtain⟨ao,cap,rfl⟩:=aw h1;unfold Oper.wp execOp;simp only[ho,resolve,invoke,builtin,Sem.run_bind,Sem.run_pure,Result.andThen_ok,List.map_toArray,List.map_cons,List.map_nil,hs,hx,hr];exact hK _ _ (h ao cap w' h1 h2)
def l9 (cs:List bA) (hp:List Ob):Prop:= ∀o∈hp,(∃a:UInt8,a.toNat=65+o.cls∧(bI cs a).length=o.fs.length)∧o.fs.length≤100∧ ∀u∈o.fs,iE hp.length u
section
variable {P:Nat→Prop} {w0 w w':World} {bw tx:Nat} {inp:ByteArray} {s:Ev} {vo vb:Value} {gs:List Nat} {fv:List Value} {cn:Int} {sn:Nat→Int}
theorem tk {hp:List Ob} {cs:List bA} (h:l9 cs hp) (k:Nat):jl hp k≤101:=by
 unfold jl;rcases hk:hp[k]? with _|o
 ·simp
 ·have:=(h o (List.mem_of_getElem? hk)).2.1;simp;omega
theorem uM (f:Nat→Nat) (b:Nat) (hf: ∀k,f k≤b): ∀l:List Nat,(l.map f).sum≤b*l.length
 | []=>by simp
 |k::l=>by
  have h1:=uM f b hf l;have h2:=hf k;simp only[List.map_cons,List.sum_cons,List.length_cons,Nat.mul_add,Nat.mul_one];omega
theorem tm (h:WdQ P w0 w bw tx inp s vo vb gs fv cn sn) (h4:s.heap.length≤4000) (hcn:cn≤100000) (b1 ca:Nat) (av:Option Addr) (vs:List V) (hv:w.ownsRow b1 168 2 (.slice av vs.length ca) vs.length (au vs)) (hvl:vs.length≤90000)
  (hok: ∀u∈vs,iE s.heap.length u) (cs:List bA) (hn:cs.length≤100) (hT:TxC w0 tx cs) (hob:l9 cs s.heap):
  Calls Tryz.prog 230 #[.pointer (some ⟨bw,0,none⟩),.slice av vs.length ca] w fun en w'=>en= .returned (.int .i64 (dH s.heap (fun k=>V.o k∈vs)))∧But (fun k=>k=bw∨k∈gs) w w'∧ ∃sn',WdQ P w0 w' bw tx inp s vo vb gs fv (cn+1) sn':=by
 obtain⟨RS,e6⟩: ∃RS,dH s.heap (fun k=>V.o k∈vs)=RS:=⟨_,rfl⟩;rw[e6];have HR:=hid e6;clear e6;have i1:=h.se.1;have c5:=h.wd.c5;have f5:=h.wd.fz 5;have j0:=h.wd.lt;have l3:=dE (cn+1) (by omega) (by omega);have HC:=hid (h.count (cn+1) (by omega));have i0:But (fun k=>k=bw∨k∈gs) w (w.setCell ⟨bw,5,none⟩ (.int .i64 (cn+1))):=(But.setB _ _ _ _).mono (fun _ _ h=>Or.inl h);have g7:=ag hv (But.setB w bw 5 (.int .i64 (cn+1))) (fun k hk e=>by have e:k=bw:=e;exact aC hv h.wd (by decide) (e▸hk));have a6:=hid (oB HC.out h4 (by omega) b1 ca av vs g7 hvl hok [] (fun j _=>⟨fun e=>by have:=(h.se.2 j).2;omega,fun e=>by cases e⟩))
 have h8:=hid (oe hok);have j7:=su [] vs;have i3:(w.setCell ⟨bw,5,none⟩ (.int .i64 (cn+1))).heap.size=w.heap.size:=bV _ _ _;have HG:Hid (∀k,k∈gs→k<w.heap.size):=fun k hk=>h.lt (Or.inr (Or.inr (Or.inr (Or.inl hk))))
 have h1:Hid (∀k',ov bw vo vb gs fv k'→k'<w.heap.size):=fun k hk=>h.lt hk
 have h2:Hid (∀k',P k'→k'<w.heap.size):=fun k hk=>(h.pl k hk).1
 have i4:=h.old.size;have f1:=hid hob;clear h hv g7 hok hob
 go_in
 go_wp2_with fail;refine a6.out.mono ?_;rintro en w1 ⟨h9,v1,rfl,e5,i5,g1,f9⟩;clear a6 c5 f5;rw[i3]at e5;obtain⟨a1,cap1,rfl⟩:=aw e5;generalize jp [] vs=F0 at*;have e4:But (fun k=>k=bw∨k∈gs) w w1:=i0.trans (h9.mono (fun _ _ h=>Or.inr h));have h6:=hid g1;have h3:=hid f9;clear g1 f9;go_wp2_with fail
 go_loopg [5,6,7] s.heap.length (fun mm cv fvv is wr=> ∃(ao:Option Addr) (cap i:Nat) (F:List Nat) (sn':Nat→Int),fvv= .slice ao F.length cap∧is= .int .i64 i∧cv= .int .i64 ((F.take i).map (jl s.heap)).sum∧i≤F.length∧i+mm≤s.heap.length∧s.heap.length≤i+mm∧But (fun k=>k=bw∨k∈gs) w wr∧Hid (WdQ P w0 wr bw tx inp s vo vb gs fv (cn+1) sn')∧wr.ownsRow w.heap.size 315 1 (.slice ao F.length cap) F.length (cQ gs F)∧
  Hid (sw s.heap vs i F)∧Hid (∀j,j<s.heap.length→(sn' j=cn+1↔j∈F)))
 case atStart=>exact⟨a1,cap1,0,F0,i5,rfl,rfl,by simp,by omega,by omega,by omega,e4,h6,e5,h8,by simpa using h3⟩
 case round=>
  obtain⟨ao,cap,i,F,sn',rfl,rfl,rfl,j2,j3,j4,e0,HW,hO,HK,HS⟩:=hrel
  by_cases hlt:i<F.length
  ·obtain⟨j,hj⟩: ∃j,F[i]?=some j:=⟨_,List.getElem?_eq_getElem hlt⟩;have i2:=HK.out.lt j (List.mem_of_getElem? hj);have i7:=lz HK.out;obtain⟨o,g,v,o1,o2,o3,o4,o5⟩:=HW.out.obj i2;obtain⟨⟨a,ha,g4⟩,k0,e8⟩:=f1.out o (List.mem_of_getElem? o1);have g5:gs.getD j 0=g:=by rw[List.getD_eq_getElem?_getD,o2];rfl
   have g3:jl s.heap j=1+o.fs.length:=by unfold jl;rw[o1];rfl
   have e9:=hid (pD HK.out hj o1 e8);have b9:=hid (fun(Y:World) (hY:But (fun _=>False) w0 Y)=>mH tx cs a Y hn (hT.but hY) (by omega));rw[g4]at b9;have a6:=hid (fun(Y:World) (hY:But (fun _=>False) wr Y) (a':Option Addr) (c':Nat) (e:v= .slice a' o.fs.length c')=>oB (HW.out.new hY) h4 (by omega) w0.heap.size c' a' o.fs (e▸ag o5 hY (fun _ _ h=>h)) (by omega) e8 F HS.out);obtain⟨af,cf,rfl⟩:=aw o5;have a3:=uM (jl s.heap) 101 (tk f1.out) (F.take i);have g6:(F.take i).length=i:=by rw[List.length_take];omega
   have f2:Hid (((((F++jp F o.fs).take (i+1)).map (jl s.heap)).sum=((F.take i).map (jl s.heap)).sum+(1+o.fs.length))):=by
    show _=_
    rw[List.take_append_of_le_length (by omega),List.take_succ_eq_append_getElem hlt,List.map_append,List.sum_append];have:F[i]=j:=(List.getElem?_eq_some_iff.1 hj).2;rw[this,List.map_cons,List.map_nil,List.sum_cons,List.sum_nil,g3];omega
   obtain⟨SM,e7⟩: ∃SM,((F.take i).map (jl s.heap)).sum=SM:=⟨_,rfl⟩;rw[e7]at a3 f2;rw[e7];clear e7;have k9:SM≤404000:=by rw[g6]at a3;omega
   have j5:=su F o.fs;obtain⟨gF,r1,b5,j1,a2⟩:=aI hO (by omega);subst r1;have q0:wr.cell? ⟨gF,i,none⟩=some (.pointer (some ⟨g,0,none⟩)):=a2 _ _ (by unfold cQ;rw[List.getElem?_map,hj];simp only[Option.map_some,g5]);have x0:wr.cell? ⟨g,0,none⟩=some (.int .u8 a.toNat):=by rw[cell_of_row wr g 0 _ _ (0,0) o4,ha];rfl
   have x1:=ce1 o4;have t0:=HW.out.wd.c0;have b6:=ae o4;have b0:=HW.out.wd.lt;have a5:=hid HW.out.old;have e1:(i:Int)<(F.length:Int):=by omega
   have l0:=dE ((i:Int)+1) (by omega) (by omega);have l4:=dE ((SM:Int)+(1+(o.fs.length:Int))) (by omega) (by omega);clear a2 o1 o3 o4 o5 hj ha g4 g3 g5 e8 a3 g6;go_wp2_with fail;have a0:But (fun _=>False) wr wr.drew:=But.drew _ _;refine aD (But (fun _=>False) wr) 15 (by kernel_rfl) ?_
   iterate 12 (refine aJ (v:=?_) rfl (by kernel_rfl) (fun _ _ _ h=>h) rfl a0 ?_ ?_;rotate_left;(focus (intro wS h;have Q0:=((h.cell (p:=⟨bw,0,none⟩) b0 nF).trans t0);have Q1:=((h.cell (p:=⟨gF,i,none⟩) b5 nF).trans q0);have Q2:=((h.cell (p:=⟨g,0,none⟩) b6 nF).trans x0);clear h;go_simp;try rfl));dsimp only[Act.put];try simp only[aL])
   refine ah rfl (by kernel_rfl) ?_;intro KS hKS;go_simp;refine(b9.out _ (a5.out.trans a0)).mono ?_;rintro en wx ⟨rfl,rfl⟩;refine hKS.out _ _ (fun _=>a0) ?_;clear hKS KS;refine ah rfl (by kernel_rfl) ?_;intro KS hKS;go_simp;refine hKS.out _ _ (fun _=>a0) ?_;clear hKS KS;refine ah rfl (by kernel_rfl) ?_;intro KS hKS;go_simp;refine hKS.out _ _ (fun _=>a0) ?_;clear hKS KS;refine aH rfl (by kernel_rfl) ?_;have b3:=ag hO a0 (fun _ _ h=>h);have e2:But (fun k=>k=bw∨k∈gs) w wr.drew:=e0.trans (a0.mono (fun _ _ h=>h.elim));replace q0:=(a0.cell (p:=⟨gF,i,none⟩) b5 nF).trans q0;replace x1:=(a0.cell (p:=⟨g,1,none⟩) b6 nF).trans x1
   replace b5:=Nat.lt_of_lt_of_le b5 a0.size;replace b6:=Nat.lt_of_lt_of_le b6 a0.size;have f3:=hid (a6.out _ a0 af cf rfl);clear a6 b9 t0 x0 HW HS hO e0 b0 a5 a0;generalize wr.drew=w2 at*;go_wp2_with fail;refine f3.out.mono ?_;rintro en w3 ⟨f6,v3,rfl,f7,h0,g2,g0⟩;have a7:But (fun k=>k=bw∨k∈gs) w w3:=e2.trans (f6.mono (fun _ _ h=>Or.inr h));have a8:=ag b3 f6 (fun k hk hg=>by have:=aA b3 k hk;have:=HG.out k hg;omega);have b4: ∀k',(Value.slice (some ⟨gF,0,none⟩) F.length cap).ownBlock=some k'→w.heap.size≤k':=fun k' h=>aA b3 k' h
   have f4:=hid g2;have h5:=hid g0;clear f3 b3 g2 g0 q0 x1;generalize jp F o.fs=F3 at*;go_wp2_with (at_builtin;refine oC rfl _ _ rfl w.heap.size _ _ v3 gs F F3 rfl rfl a8 f7 (by omega) a7.size ?_);intro a4 c6 w4 f8 d6;have e3:But (fun k=>k=bw∨k∈gs) w w4:=a7.next d6 (fun k' hk' h=>absurd (b4 k' h) (by omega));have h7:Hid (WdQ P w0 w4 bw tx inp s vo vb gs fv (cn+1) h0):=f4.out.but d6 (fun k' h=>by have:=b4 k' h;omega) (fun k' hk' h=>by have:=b4 k' h;have:=h1.out k' hk';omega) (fun k' hk' h=>by have:=b4 k' h;have:=h2.out k' hk';omega);have f0:=hid f8;have i6:=lz e9.out;clear f8 f4 a8 f7 d6;go_wp2_with fail
   go_roundg (s.heap.length-(i+1))
   case measure=>omega
   case rel=>exact⟨a4,c6,i+1,F++F3,h0,by simp,by simp,by rw[f2.out];simp,by simp;omega,by omega,by omega,e3,h7,by first|exact f0.out| (rw[List.length_append];exact f0.out),e9,h5⟩
  ·have b2:((F.take i).map (jl s.heap)).sum=RS:=by rw[←HR.out,sx HK.out (by omega),List.take_of_length_le (by omega)]
   rw[b2];have e1: ¬(i:Int)<(F.length:Int):=by omega
   clear b2;go_wp2_with fail;go_ret;exact⟨rfl,e0,sn',HW.out⟩
end
end
end Go.Proofs.YtpfkkmacakjmbaaGreatDoor
