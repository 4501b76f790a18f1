import Derived.Test.YtpfkkmacakjmbaaGreatDoorP32
import Derived.Test.YtpfkkmacakjmbaaGreatDoorP25
set_option maxRecDepth 100000
set_option maxHeartbeats 6400000
set_option linter.all false
namespace Go.Proofs.YtpfkkmacakjmbaaGreatDoor
open Proofs.Tryz
section
open Go Go.RowKit Sp
attribute [local go_sem ↓] eF eG
structure Ei (w0 w w':World) (mb tx:Nat) (tv:Value) (bw cells:Nat) (cur:Option Nat) (ans:Int) (d:Nat) (gs:List Sig) (b:Bod) (p:Nat×List St) (fb bl:Nat) (lv vl vi:Value):Prop where
 but:But (· =mb) w w'
 mc:MbB w' mb tx tv bw cells (some fb) ans
 fr:FbB w' fb cur d (aR gs b) vl vi (.slice (some ⟨p.1,0,none⟩) p.2.length p.2.length) 0 bl S_
 lb:w'.heap[bl]?=some (.cells #[lv] 280)
 lo:w'.ownsRow w.heap.size 168 2 lv b.zy.length (az (b.zy.map du))
 gf:w.heap.size<=fb
 gl:w.heap.size<=bl
 bt:BtB w0 0 vl (aR gs b).zy
 it:ItB w0 0 vi (aR gs b).items
 tb:StB w0 p.1 p.2
section
variable (w0 w:World) (mb tx bw cells d base:Nat) (tv:Value) (ans:Int) (im:Img) (l:List (Nat×List St)) (q:Nat) (b:Bod) (p:Nat×List St)
theorem sG (cur:Option Nat) (hd:(cur=none/\d=0)\/ ∃j,cur=some j/\j<w.heap.size/\w.cell? ⟨j,1,none⟩=some (.int .i64 d)) (hdd:d<=100) (h:MbB w mb tx tv bw cells cur ans) (h0:B_ w0 w) (hT:d9 w0 tx im) (hl:fV w0 base tv l) (hq:im.zj[q]?=some b) (hp:l[q]?=some p) (hlo:b.zy.length<=5) (hnb:im.zj.length<=100):
  Calls prog 87 #[.pointer (some ⟨mb,0,none⟩),.int .i64 q] w λen w'=>en= .returned (.tuple #[])/\ ∃fb bl lv vl vi,Ei w0 w w' mb tx tv bw cells cur ans (d+1) im.zx b p fb bl lv vl vi:=by
 obtain⟨v2,t2,s,lb,hO,hm,hf⟩:=hT.bod;have hX:(im.zj.map (aR im.zx))[q]?=some (aR im.zx b):=by rw[cg,hq];rfl
 rw[<-hm,cg]at hX;obtain⟨⟨X,vl,vi⟩,c,m⟩:=Option.map_eq_some_iff.1 hX;simp only at m;have T:Hid (X=aR im.zx b):=m;have z:X.zy=b.zy:=by rw[m];rfl
 clear m;obtain⟨E,F⟩:=hf _ (a9 c);simp only at E F;have O:=hid E;have P:=hid F;obtain⟨al,capl,rfl⟩:=aA E;obtain⟨ai,capi,rfl⟩:=aA F;obtain⟨ao,capo,rfl⟩:=aA hO;have a5:q<lb.length:=(bn c).1;obtain⟨g,rfl,f,a8,a⟩:=aL hO (by omega);have G:=a _ _ (br (k:=0) c (by omega));have H:=a _ _ (br (k:=1) c (by omega));have I:=a _ _ (br (k:=2) c (by omega));have D:=a _ _ (br (k:=3) c (by omega));have J:=a _ _ (br (k:=4) c (by omega));simp only[Nat.add_zero,List.getElem?_cons_zero,List.getElem?_cons_succ]at G H I D J;obtain⟨ax,capx,rfl⟩:=aA hl.1;have a6:q<l.length:=(bn hp).1;obtain⟨gx,rfl,t,b6,C⟩:=aL hl.1 (by omega)
 have q5:w0.cell? ⟨gx,q,none⟩=some (.slice (some ⟨p.1,0,none⟩) p.2.length p.2.length):=C _ _ (by simp[ky,hp]);have S:=hid (hl.2 p (a9 hp));replace G:=(h0.cell f (λh=>h)).trans G;replace H:=(h0.cell f (λh=>h)).trans H;replace I:=(h0.cell f (λh=>h)).trans I;replace D:=(h0.cell f (λh=>h)).trans D;replace J:=(h0.cell f (λh=>h)).trans J;replace q5:=h0.kc q5 t;replace t2:=(h0.cell s (λh=>h)).trans t2;replace f:=aP f h0.size;replace t:=aP t h0.size;replace s:=aP s h0.size;have Q:=hid (λY=>mJ X.cls (X.meth:Int) X.ans b.zy al capl ai X.items.length capi Y (by omega));have e0:=h.c0;have e1:=h.c1
 have z4:=h.fz 4;have r:=h.lt;have HM:=hid h;have b2:(0:Int)<=(q:Int):=by omega
 have b3:(q:Int)<(lb.length:Int):=by omega
 have b4:(q:Int)<(l.length:Int):=by omega
 have y:lb.length=im.zj.length:=by have:=congrArg List.length hm;simpa using this
 rw[z]at D;clear y;have Z:=h.c4;have HD:=hid hd;clear hd;clear hX c E F a C hf hO hm hq a5 hT h hl hp a6;generalize A:b.zy.length=nL at*;generalize b1:X.items.length=nI at*;generalize lb.length=nb at*;generalize l.length=nx at*;have b5:=dV ((d:Int)+1) (by omega) (by omega);obtain⟨rfl,rfl⟩ | ⟨j,rfl,b0,c1⟩:=HD.out
 all_goals
  simp only[kA,Option.map_none,Option.map_some]at Z
  go_in
  go_wp2_with fail;refine(Q.out _).mono ?_;rintro en w1 ⟨bl,lv,rfl,x,c,n,a0⟩;have v:=(x.block w.heap.size (by simp) nF).trans (bj w _);have i:B_ w w1:=(ag _ _ _).trans x;have k9:=ce9 v;have y9:=cw w1 w.heap.size 9 _ _ v;have m4:=(i.cell (p:=⟨mb,4,none⟩) r nF).trans Z;have n4:=(i.frozen (p:=⟨mb,4,none⟩) r nF).trans z4;have a7:=ae v;have HA:=hid v;have a3:mb<w1.heap.size:=aP r i.size;have a4: ¬w.heap.size=mb:=by omega
  have B: ¬mb=w.heap.size:=by omega
  have a1:w.heap.size+1<=bl:=by simpa using a0
  clear v Z z4 G H I D J q5 e0 e1 t2;go_wp2_with fail;go_end0;have M:But (· =w.heap.size) w1 (w1.setCell ⟨w.heap.size,9,none⟩ (.pointer (some ⟨bl,0,none⟩))):=aq _ _ _ _;have L:But (· =mb) (w1.setCell ⟨w.heap.size,9,none⟩ (.pointer (some ⟨bl,0,none⟩))) ((w1.setCell ⟨w.heap.size,9,none⟩ (.pointer (some ⟨bl,0,none⟩))).setCell ⟨mb,4,none⟩ (.pointer (some ⟨w.heap.size,0,none⟩))):=aq _ _ _ _;have a2:=bS w1 w.heap.size 9 _ _ (.pointer (some ⟨bl,0,none⟩)) HA.out;refine⟨rfl,w.heap.size,bl,lv,.slice al nL capl,.slice ai nI capi,((i.mono (λ_ _ h=>h.elim)).next M (λk hk e=>by have e:k=w.heap.size:=e;omega)).trans L,((HM.out.but i nF).but M B).set4 (some w.heap.size),?_,?_,?_,bG _,by omega,?_,?_,S.out⟩
  .rw[<-T.out];exact FbB.but a2 L a4
  .exact(L.block bl (by rw[cJ];exact ae c) (by show¬bl=mb;omega)).trans ((M.block bl (ae c) (by show¬bl=w.heap.size;omega)).trans c)
  .rw[A];exact dh (ah (ah n M (λk hk e=>by have:=aC n k hk;simp at this;have e:k=w.heap.size:=e;omega)) L (λk hk e=>by have:=aC n k hk;simp at this;have e:k=mb:=e;omega)) (by simp)
  .have:=O.out;rw[show X.zy.length=nL from by rw[z,A]]at this;rw[<-T.out];exact this
  .rw[<-T.out];exact P.out
end
def xY (p:V×UInt8):Bool:=decide (p.2.toNat≠45)
theorem CE {zs:List (V×UInt8)} {k:Nat} {u:V} {y:UInt8} {t:List V} (h:zs[k]?=some (u,y)) (ht:((zs.take k).filter xY).map (·.1)=t):((zs.take (k+1)).filter xY).map (·.1)=if y.toNat=45 then t else t++ [u]:=by
 obtain⟨b,a⟩:=bn h;rw[kj b,List.filter_append,List.map_append,ht,a]
 by_cases e:y.toNat=45
 .rw[if_pos e];simp[xY,e]
 .rw[if_neg e];simp[xY,e]
theorem yR (w:World):(w.alloc (.cells #[] 168)).ownsRow w.heap.size 168 2 (.slice (some ⟨w.heap.size,0,none⟩) 0 0) 0 (az []):=
 ⟨rfl,Or.inr ⟨w.heap.size,0,#[],rfl,bG _,bj w _,by simp,by unfold maxLen;omega,rfl,rfl⟩⟩
theorem qW (w:World) (b1 cv ct:Nat) (av at':Option Addr) (vs:List V) (ty:L_) (h1:w.ownsRow b1 168 2 (.slice av vs.length cv) vs.length (az vs)) (h2:BtB w 0 (.slice at' ty.length ct) ty) (h4:vs.length<=4000):
  Calls prog 246 #[.slice av vs.length cv,.slice at' ty.length ct] w λen w'=>B_ w w'/\ ∃v,en= .returned v/\w'.ownsRow w.heap.size 168 2 v (dY vs ty).length (az (dY vs ty)):=by
 obtain⟨i0,E,J,L,M⟩:=info_parts jr;obtain⟨zs,i⟩: ∃zs,vs.zip ty=zs:=⟨_,rfl⟩;have hn:zs.length=min vs.length ty.length:=by rw[<-i];simp
 have O:Hid (dY vs ty=(zs.filter xY).map (·.1)):=by show _=_;rw[<-i];rfl
 have T:Hid (∀k u y,vs[k]?=some u->ty[k]?=some y->zs[k]?=some (u,y)):=λk u y a b=>by rw[<-i,List.getElem?_zip_eq_some];exact⟨a,b⟩
 rw[O.out];clear i O;obtain⟨RS,m⟩: ∃RS,(zs.filter xY).map (·.1)=RS:=⟨_,rfl⟩;rw[m];have S:=hid m;clear m
 go_in
 go_wp2_with fail;have C:B_ w (w.alloc (.cells #[] 168)):=ag _ _ _
 go_loopg [5,6] zs.length (λmm vt is wr=> ∃(ao:Option Addr) (cap k:Nat) (t:List V),vt= .slice ao t.length cap/\is= .int .i64 k/\k<=zs.length/\k+mm<=zs.length/\zs.length<=k+mm/\B_ w wr/\wr.ownsRow w.heap.size 168 2 (.slice ao t.length cap) t.length (az t)/\t.length<=k/\
  Hid (((zs.take k).filter xY).map (·.1)=t))
 case atStart=>exact⟨_,0,0,[],rfl,rfl,by omega,by omega,by omega,C,yR w,by simp,rfl⟩
 case round=>
  obtain⟨ao,cap,k,t,rfl,rfl,a1,F,a2,d,f,a3,A⟩:=hrel;clear F
  by_cases hlt:k<zs.length
  .have x:k<vs.length:=by omega
   have G:k<ty.length:=by omega
   have P:(k:Int)<(vs.length:Int):=by omega
   have X:(k:Int)<(ty.length:Int):=by omega
   obtain⟨u,B⟩: ∃u,vs[k]?=some u:=⟨_,aM x⟩;obtain⟨y,I⟩: ∃y,ty[k]?=some y:=⟨_,aM G⟩;obtain⟨g1,r1,Z,_,c⟩:=aL (ah h1 d (λ_ _ h=>h)) (by omega);obtain⟨g2,r2,a0,_,e⟩:=aL (h2.but d (λ_ _ h=>h)) (by omega);subst r1 r2;have q0:wr.cell? ⟨g1,k*2,none⟩=some (.int .i32 (xN u)):=c _ _ (bJ (k:=0) B (by omega));have q1:wr.cell? ⟨g1,k*2+1,none⟩=some (.int .i64 (xO u)):=c _ _ (bJ (k:=1) B (by omega));have q2:wr.cell? ⟨g2,k,none⟩=some (.int .u8 y.toNat):=e _ _ (by rw[aU,cg,I];rfl);have g:=hid (CE (T.out k u y B I) A.out);clear c e B I A
   by_cases hyy:y.toNat=45
   .have z:(y.toNat:Int)=45:=by omega
    rw[z]at q2;rw[if_pos hyy]at g;have H:=dV ((k:Int)+1) (by omega) (by omega);go_wp2_with fail
    go_roundg (zs.length-(k+1))
    case measure=>omega
    case rel=>exact⟨_,cap,k+1,t,rfl,by simp,by omega,by omega,by omega,d,f,by omega,g.out⟩
   .have z:(y.toNat:Int)≠45:=by omega
    rw[if_neg hyy]at g;have H:=dV ((k:Int)+1) (by omega) (by omega);go_wp2_with (at_builtin;refine wpList_append_lies _ rfl _ _ _ rfl w.heap.size 168 i0 _ 2 16 (by kernel_rfl) E J L M rfl (by omega) _ t.length (az t) rfl (f.alloc _) ⟨wr.heap.size,0,none⟩ 1 1 [.int .i32 (xN u),.int .i64 (xO u)] rfl rfl (iO (cs:=#[.int .i32 (xN u),.int .i64 (xO u)]) (t:=168) (fr:=(0,0)) (bj wr _)) (by simp[Value.oneCell']) (by omega) (by unfold maxLen;omega) (by omega) (by have:=d.size;simp;omega) (wr.heap.size+1) (by simp) ?_);intro gg j w2 p n Y Q;have D:But (λk'=>(Value.slice ao t.length cap).ownBlock=some k') wr w2:=(ag _ _ _).trans (bD n)
    have s:B_ w w2:=d.next D (λk' hk' h=>absurd (aC f k' h) (by omega))
    have r:w2.ownsRow w.heap.size 168 2 (.slice (some ⟨gg,0,none⟩) (t++ [u]).length j) (t++ [u]).length (az (t++ [u])):=by
     rw[aV,fq];exact p
    go_wp2_with fail
    go_roundg (zs.length-(k+1))
    case measure=>omega
    case rel=>exact⟨_,j,k+1,t++ [u],by simp,by simp,by omega,by omega,by omega,s,r,by simp;omega,g.out⟩
  .have l:RS=t:=by rw[<-S.out,<-A.out,g8 (by omega)]
   have q:=hid l;clear l A
   by_cases x:k<vs.length
   .have P:(k:Int)<(vs.length:Int):=by omega
    have X: ¬(k:Int)<(ty.length:Int):=by omega
    go_wp2_with fail;exact cV (.slice ao t.length cap) results246 rfl rfl ⟨d,_,rfl,by rw[q.out];exact f⟩
   .have P: ¬(k:Int)<(vs.length:Int):=by omega
    go_wp2_with fail;exact cV (.slice ao t.length cap) results246 rfl rfl ⟨d,_,rfl,by rw[q.out];exact f⟩
theorem rJ (l m:List V):az (l++m)=az l++az m:=by simp[az]
theorem rK (l:List V): ∀u∈az l,u.oneCell'=true:=by
 intro u a;obtain⟨x,_,hx⟩:=List.mem_flatMap.1 a;simp only[ka,List.mem_cons,List.not_mem_nil,or_false]at hx;obtain h|h:=hx<;>(rw[h];rfl)
theorem wg (w:World) (ty:TypeId) (base bx:Nat) (v xv:Value) (l m:List V) (hown:w.ownsRow base 168 2 v l.length (az l)) (hx:w.ownsRow bx 168 2 xv m.length (az m)) (hlen:l.length+m.length<=100000) (hbase:base<=w.heap.size):
  ∃v' w',(Builtin.append_ #[213,213] ty #[v,xv]).run prog w= .ok v' w'/\w'.ownsRow base 168 2 v' (l++m).length (az (l++m))/\But (λk=>v.ownBlock=some k) w w'/\(v'.ownBlock=v.ownBlock\/v'.ownBlock=some w.heap.size):=by
 obtain⟨x,d,r,f,s⟩:=info_parts jr;have p:prog.underlying 213=some (.slice 168):=by kernel_rfl
 obtain⟨ax,cx,rfl⟩:=aA hx
 cases ax with
 |none=>
  have hm:m.length=0:=by
   obtain h|h:=Nat.eq_zero_or_pos m.length
   .exact h
   .obtain⟨g,C,_⟩:=aL hx h
    cases C
  have n:m=[]:=List.length_eq_zero_iff.1 hm;subst n;obtain⟨ao,cap,rfl⟩:=aA hown
  have t:l.length<=cap:=by
   obtain⟨y,_⟩ | ⟨g',cap',cur,q,_,_,hn,_⟩:=hown.2
   .injection y with _ a b;omega
   .injection q with _ _ e3;omega
  refine⟨_,w,run_append_nothing w _ _ ty 168 x p d ao l.length cap (by omega) _ (by rw[f];exact Src.ofNil w p cx),by simpa using hown,cq _ _,Or.inl rfl⟩
 |some ad=>
  have c: ∀j u,(az m)[j]?=some u->w.cell? (ad.add j)=some u:=by
   intro j u D;obtain⟨g,cap',q,hc,_⟩:=ki hx D
   have z:ad=⟨g,0,none⟩:=by
    have i:=congrArg (λv=>match v with|Value.slice a _ _=>a|_=>none) q;exact Option.some.inj i
   rw[z];have e:(⟨g,0,none⟩:Addr).add j=⟨g,j,none⟩:=by simp[Addr.add];exact λh=>h.symm
   rw[e];exact hc
  obtain⟨v',w',E,i,A,_,B⟩:=run_append_own_at (P:=prog) w base _ ty 168 x _ 2 16 p d r f s rfl (by omega) v l.length (az l) hown ad m.length cx (az m) (ey m) c (rK m) (by unfold maxLen;omega) (by omega) hbase;refine⟨v',w',E,?_,bD A,B⟩;rw[rJ,aV];exact i
theorem l9 {w:World} {ops:Array Oper} {rest:List Oper} {o:Oper} {a:Act} {Q:Exit->Act->World->Prop} (hgd:o.guard=none) (s x:Operand)
  (ho:o.op= .call {callee:= .builtin .append,args:=#[s,x],argTypes:=#[213,213]}) (base bx:Nat) (v xv:Value) (l m:List V) (hs:a.eval s=v) (hx:a.eval x=xv) (hown:w.ownsRow base 168 2 v l.length (az l)) (hxo:w.ownsRow bx 168 2 xv m.length (az m)) (hlen:l.length+m.length<=100000) (hbase:base<=w.heap.size)
  (h: ∀ao cap w',w'.ownsRow base 168 2 (.slice ao (l++m).length cap) (l++m).length (az (l++m))->But (λk=>v.ownBlock=some k) w w'->((Value.slice ao (l++m).length cap).ownBlock=v.ownBlock\/(Value.slice ao (l++m).length cap).ownBlock=some w.heap.size)->wpList prog ops Q rest (a.put o.dst (.slice ao (l++m).length cap)) w'):wpList prog ops Q (o::rest) a w:=by
 refine wpList_plain hgd λK hK=> ?_
 obtain⟨v',w',e,b,c,d⟩:=wg w o.type base bx v xv l m hown hxo hlen hbase;obtain⟨ao,cap,rfl⟩:=aA b;unfold Oper.wp execOp;simp only[ho,resolve,invoke,builtin,Sem.run_bind,Sem.run_pure,Result.andThen_ok,List.map_toArray,List.map_cons,List.map_nil,hs,hx,e];exact hK _ _ (h ao cap w' b c d)
section
variable (w:World) (fb d pc bl sg base:Nat) (ca:Option Nat) (X:bK) (vl vi sv lv:Value) (zv loc:List V) (tab:List St)
theorem iH (vs:List V) (ts:L_):(dY vs ts).length<=vs.length:=by
 unfold dY;rw[bZ];refine Nat.le_trans (List.length_filter_le _ _) ?_;rw[List.length_zip];omega
theorem AT (h:FbB w fb ca d X vl vi (.slice (some ⟨sg,0,none⟩) tab.length tab.length) pc bl sv) (hs:StB w sg tab) (st lo:L_) (hpc:tab[pc]?=some (some (st,lo))) (hb:w.heap[bl]?=some (.cells #[lv] 280))
  (ho:w.ownsRow base 168 2 sv zv.length (az zv)) (hl:w.ownsRow base 168 2 lv loc.length (az loc)) (h4:zv.length<=4000) (h5:loc.length<=4000) (h6:tab.length<=100):
  Calls prog 229 #[.pointer (some ⟨fb,0,none⟩)] w λen w'=>B_ w w'/\ ∃v,en= .returned v/\w'.ownsRow w.heap.size 168 2 v (dY zv st++dY loc lo).length (az (dY zv st++dY loc lo)):=by
 obtain⟨L,hg,hL,hx⟩:=hs;have a3:pc<tab.length:=(bn hpc).1;rw[<-hL,cg]at hpc;obtain⟨⟨x,vs,vo⟩,j,O⟩:=Option.map_eq_some_iff.1 hpc;simp only at O;subst O;obtain⟨bs,bo⟩:=hx _ (a9 j) st lo rfl;simp only at bs bo;obtain⟨aS,cs,rfl⟩:=aA bs;obtain⟨ao,co,rfl⟩:=aA bo;obtain⟨av,cv,rfl⟩:=aA ho;obtain⟨al,cl,rfl⟩:=aA hl;have cc: ∀k v,(fG L)[k]?=some v->w.cell? ⟨sg,k,none⟩=some v:=λk v hk=>by rw[bU w sg k _ _ (0,0) hg];simpa using hk
 have Q:w.cell? ⟨sg,pc*3,none⟩=some (.bool true):=cc _ _ (cP (k:=0) j (by omega));have S:w.cell? ⟨sg,pc*3+1,none⟩=some (.slice aS st.length cs):=cc _ _ (cP (k:=1) j (by omega));have q2:w.cell? ⟨sg,pc*3+2,none⟩=some (.slice ao lo.length co):=cc _ _ (cP (k:=2) j (by omega));have B:=ae hg;have c:=h.lt;have M:=ae hb;have c7:=h.c7;have c8:=h.c8;have c9:=h.c9;have c10:=h.c10;have b0:=ce0 hb;have n0: ¬((pc:Int)<0):=by omega
 have n1: ¬((tab.length:Int)<=(pc:Int)):=by omega
 have n2:(0:Int)<=(pc:Int):=by omega
 have n3:(pc:Int)<(tab.length:Int):=by omega
 have D:=hid (λ(Y:World) (hY:B_ w Y)=>qW Y base cv cs av aS zv st (ah ho hY (λ_ _ h=>h)) (bs.but hY (λ_ _ h=>h)) h4);have E:=hid (λ(Y:World) (hY:B_ w Y)=>qW Y base cl co al ao loc lo (ah hl hY (λ_ _ h=>h)) (bo.but hY (λ_ _ h=>h)) h5);have a4:=iH zv st;have a5:=iH loc lo;clear h hb ho hl hg cc j hpc hx bs bo hL;generalize tab.length=nt at*;generalize dY zv st=us at*;generalize dY loc lo=ul at*
 go_in
 go_wp2_with fail;have a:B_ w w.drew:=aD _ _;refine aF (B_ w) 17 ?_
 iterate 17 (refine aN (v:=?_) rfl a ?_ ?_;rotate_left;(focus (intro wS h;have Q:=((h.cell (p:=⟨fb,8,none⟩) c nF).trans c8);have S:=((h.cell (p:=⟨fb,7,none⟩) c nF).trans c7);clear h;go_simp;try rfl));dsimp only[Act.put];try simp only[bW])
 refine aK rfl ?_;clear a;have HD:=hid (aD (λ_=>False) w);go_wp2_with fail;have a:B_ w w.drew.drew:=HD.out.trans (aD _ _);clear HD;refine aF (B_ w) 11 ?_
 iterate 10 (refine aN (v:=?_) rfl a ?_ ?_;rotate_left;(focus (intro wS h;have Q0:=((h.cell (p:=⟨fb,8,none⟩) c nF).trans c8);have Q1:=((h.cell (p:=⟨fb,7,none⟩) c nF).trans c7);have Q2:=((h.cell (p:=⟨sg,pc*3,none⟩) B nF).trans Q);have Q3:=((h.cell (p:=⟨sg,pc*3+1,none⟩) B nF).trans S);have Q4:=((h.cell (p:=⟨sg,pc*3+2,none⟩) B nF).trans q2);clear h;go_simp;try rfl));dsimp only[Act.put];try simp only[bW])
 generalize w.drew.drew=Y at*;refine au rfl ?_;intro KS hKS;go_simp;have l:B_ w (Y.alloc (.cells #[.bool false,S_,S_] 117)):=a.trans (ag _ _ _);refine hKS.out _ _ (λ_=>l) ?_;clear hKS KS;have i:=bj Y (.cells #[.bool false,S_,S_] 117);revert i l;generalize (Y.alloc (.cells #[.bool false,S_,S_] 117))=Z;intro l i;have a2:w.heap.size<=Y.heap.size:=a.size;generalize Y.heap.size=r at*;have y0:=ce0 i;have y1:=ce1 i;have y2:=ce2 i;have z0:=cw Z r 0 _ _ i;have z1:=cw Z r 1 _ _ i;have z2:=cw Z r 2 _ _ i;have f:=ae i
 refine au rfl ?_;intro KS hKS;go_simp;refine hKS.out _ _ nofun ?_;clear hKS KS;refine aK rfl ?_;clear y0 y1 y2 z0 z1 z2 f;have n:B_ w (((Z.setCell ⟨r,0,none⟩ (.bool true)).setCell ⟨r,1,none⟩ (.slice aS st.length cs)).setCell ⟨r,2,none⟩ (.slice ao lo.length co)):=l.next (((aq _ _ _ _).trans (aq _ _ _ _)).trans (aq _ _ _ _)) (λk hk e=>by have e:k=r:=e;omega);have g:(((Z.setCell ⟨r,0,none⟩ (.bool true)).setCell ⟨r,1,none⟩ (.slice aS st.length cs)).setCell ⟨r,2,none⟩ (.slice ao lo.length co)).heap[r]?=some (.cells #[.bool true,.slice aS st.length cs,.slice ao lo.length co] 117):=bS _ r 2 _ _ _ (bS _ r 1 _ _ _ (bS _ r 0 _ _ _ i))
 revert n g;generalize (((Z.setCell ⟨r,0,none⟩ (.bool true)).setCell ⟨r,1,none⟩ (.slice aS st.length cs)).setCell ⟨r,2,none⟩ (.slice ao lo.length co))=W;intro n g;clear l i a Q S q2 c7 c8;have x1:=ce1 g;have x2:=ce2 g;have f:=ae g;have T:=(n.cell (p:=⟨fb,9,none⟩) c nF).trans c9;have P:=(n.cell (p:=⟨fb,10,none⟩) c nF).trans c10;have kb:=(n.cell (p:=⟨bl,0,none⟩) M nF).trans b0;have m:=aP c n.size;have t:=aP M n.size;clear g c9 c10 b0;go_wp2_with fail;have a:B_ W W.drew:=aD _ _;refine aF (B_ W) 8 ?_
 iterate 6 (refine aN (v:=?_) rfl a ?_ ?_;rotate_left;(focus (intro wS h;have Q:=((h.cell (p:=⟨fb,10,none⟩) m nF).trans P);have S:=((h.cell (p:=⟨r,1,none⟩) f nF).trans x1);clear h;go_simp;try rfl));dsimp only[Act.put];try simp only[bW])
 refine au rfl ?_;intro KS hKS;go_simp;refine(D.out _ (n.trans a)).mono ?_;rintro en w1 ⟨q,v1,rfl,F⟩;refine hKS.out _ _ (λ_=>a.trans q) ?_;clear hKS KS;refine au rfl ?_;intro KS hKS;go_simp;refine hKS.out _ _ (λ_=>a.trans q) ?_;clear hKS KS;refine aK rfl ?_;have b:=a.trans q;have I:=n.trans b;replace x2:=(b.cell (p:=⟨r,2,none⟩) f nF).trans x2;replace T:=(b.cell (p:=⟨fb,9,none⟩) m nF).trans T;replace kb:=(b.cell (p:=⟨bl,0,none⟩) t nF).trans kb;replace f:=aP f b.size;replace m:=aP m b.size;replace t:=aP t b.size;have z:w1.ownsRow w.heap.size 168 2 v1 us.length (az us):=dh F (n.trans a).size
 clear F q a x1 P D;go_wp2_with fail;have a:B_ w1 w1.drew:=aD _ _;refine aF (B_ w1) 11 ?_
 iterate 9 (refine aN (v:=?_) rfl a ?_ ?_;rotate_left;(focus (intro wS h;have Q:=((h.cell (p:=⟨fb,9,none⟩) m nF).trans T);have S:=((h.cell (p:=⟨r,2,none⟩) f nF).trans x2);have q2:=((h.cell (p:=⟨bl,0,none⟩) t nF).trans kb);clear h;go_simp;try rfl));dsimp only[Act.put];try simp only[bW])
 refine au rfl ?_;intro KS hKS;go_simp;refine(E.out _ (I.trans a)).mono ?_;rintro en w2 ⟨s,v2,rfl,G⟩;refine hKS.out _ _ (λ_=>a.trans s) ?_;clear hKS KS;refine au rfl ?_;intro KS hKS;go_simp;refine hKS.out _ _ (λ_=>a.trans s) ?_;clear hKS KS;refine aK rfl ?_;have y:=a.trans s;have J:=I.trans y;have A:=ah z y (λ_ _ h=>h);clear z a s x2 T kb E;go_wp2_with (at_builtin;refine l9 rfl _ _ rfl w.heap.size _ v1 v2 us ul rfl rfl A G (by omega) J.size ?_);intro aj cj w3 H a0 _;have C:=hid H;have a1:B_ w w3:=J.next a0 (λk hk h=>by have:=aC A k h;omega);clear H A G;go_wp2_with fail
 exact cV (.slice aj (us.length+ul.length) cj) results229 rfl rfl ⟨a1,_,rfl,by first|exact C.out| (rw[aV];exact C.out)⟩
end
def dF (gs:List Nat) (F:List Nat):List Value:=F.map λk=> .pointer (some ⟨gs.getD k 0,0,none⟩)
theorem wh:(prog.info? 315).map (λi=>(i.zero,i.size,i.bytes))=some (some (.pointer none),1,8):=by kernel_rfl
theorem DR (w:World) (gs:List Nat):(w.alloc (.cells #[] 315)).ownsRow w.heap.size 315 1 (.slice (some ⟨w.heap.size,0,none⟩) 0 0) 0 (dF gs []):=
 ⟨rfl,Or.inr ⟨w.heap.size,0,#[],rfl,bG _,bj w _,by simp,by unfold maxLen;omega,rfl,rfl⟩⟩
section
variable {P:Nat->Prop} {w0 w w':World} {bw tx:Nat} {inp:ByteArray} {s:Ev} {vo vb:Value} {gs:List Nat} {fv:List Value} {cn:Int} {sn:Nat->Int}
theorem WdQ.mark (h:WdQ P w0 w bw tx inp s vo vb gs fv cn sn) {k g:Nat} (hg:gs[k]?=some g):WdQ P w0 (w.setCell ⟨g,2,none⟩ (.int .i64 cn)) bw tx inp s vo vb gs fv cn (λj=>if j=k then cn else sn j):=by
 have l:k<s.heap.length:=by rw[<-h.lg];exact(bn hg).1
 obtain⟨o,g',v,f,b,i,c,m⟩:=h.obj l;rw[hg]at b
 cases b
 have d:=aq w g 2 (.int .i64 cn);have a:=h.stand c (h.k7 (a9 hg)).1 (h.k7 (a9 hg)).2 d;refine⟨a.old,a.wd (by decide),a.out (by decide),a.ob (by decide),h.lg,h.lf,λj o' q v' x y z=>⟨?_,a.fld (by decide) j o' q v' x y z⟩,h.nd,h.own,a.pl,h.sf,h.se.1,λj=> ?_⟩
 .by_cases e:j=k
  .subst e;rw[hg]at y
   cases y
   rw[f]at x
   cases x
   rw[i]at z
   cases z
   simp only[if_true];exact bS w g 2 _ _ _ c
  .simp only[if_neg e];have x1:=(h.obs j o' q v' x y z).1;exact(d.block q (ae x1) (λe'=>e (h.nd j k g (by rw[y,e']) hg))).trans x1
 .show 0<=(if j=k then cn else sn j)/\(if j=k then cn else sn j)<=cn
  split
  .exact⟨h.se.1,eH _⟩
  .exact h.se.2 j
theorem qX (h:WdQ P w0 w bw tx inp s vo vb gs fv cn sn) (h4:s.heap.length<=4000) (hcn:cn<=1000000) (b1 ca:Nat) (av:Option Addr) (vs:List V) (hv:w.ownsRow b1 168 2 (.slice av vs.length ca) vs.length (az vs)) (hvl:vs.length<=90000)
  (hok: ∀u∈vs,(∃n,u= .i n)\/u= .z\/ ∃k,u= .o k/\k<s.heap.length) (L:List Nat) (hL: ∀j,j<s.heap.length->(sn j=cn↔j∈L)):
  Calls prog 247 #[.pointer (some ⟨bw,0,none⟩),.slice av vs.length ca] w λen w'=>But (· ∈gs) w w'/\ ∃v,en= .returned v/\w'.ownsRow w.heap.size 315 1 v (lx L vs).length (dF gs (lx L vs))/\ ∃sn',WdQ P w0 w' bw tx inp s vo vb gs fv cn sn'/\ ∀j,j<s.heap.length->(sn' j=cn↔j∈L++lx L vs):=by
 obtain⟨i0,e3,f0,f1,f3⟩:=info_parts wh;obtain⟨RS,Y⟩: ∃RS,lx L vs=RS:=⟨_,rfl⟩;rw[Y];have HR:=hid Y;clear Y;have c6:But (· ∈gs) w (w.alloc (.cells #[] 315)):=ag _ _ _;have e7:=λg (hg:g∈gs)=>h.mg hg
 have a5: ∀wr,But (· ∈gs) w wr->wr.ownsRow b1 168 2 (.slice av vs.length ca) vs.length (az vs):=λwr hb=>ah hv hb (λk hk hg=>by obtain⟨c,v,q,ho⟩:=h.mg hg;exact aE hv ho (by decide) hk)
 have b8:=hid (h.new (ag (λ_=>False) w (.cells #[] 315)));have HL:=hid hL;have b5:=hid hok;have b3:=hid a5;have HG:Hid (∀k,k∈gs->k<w.heap.size):=λk hk=>h.lt (Or.inr (Or.inr (Or.inr (Or.inl hk))))
 have b4:Hid (∀k',qR bw vo vb gs fv k'->k'<w.heap.size):=λk hk=>h.lt hk
 have b6:Hid (∀k',P k'->k'<w.heap.size):=λk hk=>(h.pl k hk).1
 have e9:=h.old.size;clear hL hok a5 e7 h hv
 go_in
 go_wp2_with fail
 go_loopg [5,6] vs.length (λmm vt is wr=> ∃(ao:Option Addr) (cap k:Nat) (F:List Nat) (sn':Nat->Int),vt= .slice ao F.length cap/\is= .int .i64 k/\k<=vs.length/\k+mm<=vs.length/\vs.length<=k+mm/\But (· ∈gs) w wr/\Hid (WdQ P w0 wr bw tx inp s vo vb gs fv cn sn')/\wr.ownsRow w.heap.size 315 1 (.slice ao F.length cap) F.length (dF gs F)/\F.length<=k/\
  Hid (lx L (vs.take k)=F)/\Hid (∀j,j<s.heap.length->(sn' j=cn↔j∈L++F)))
 case atStart=>exact⟨_,0,0,[],sn,rfl,rfl,by omega,by omega,by omega,c6,b8,DR w gs,by simp,rfl,by simpa using HL⟩
 case round=>
  obtain⟨ao,cap,k,F,sn',rfl,rfl,f6,e4,f7,H,HW,X,f8,HA,T⟩:=hrel;clear e4
  by_cases hlt:k<vs.length
  .have e1:(k:Int)<(vs.length:Int):=by omega
   obtain⟨u,hu⟩: ∃u,vs[k]?=some u:=⟨_,aM hlt⟩;obtain⟨g1,r1,f5,_,b⟩:=aL (b3.out wr H) (by omega);subst r1;have q0:wr.cell? ⟨g1,k*2,none⟩=some (.int .i32 (xN u)):=b _ _ (bJ (k:=0) hu (by omega));have q1:wr.cell? ⟨g1,k*2+1,none⟩=some (.int .i64 (xO u)):=b _ _ (bJ (k:=1) hu (by omega));have r:=hid (zY hu HA.out);have g0:=dV ((k:Int)+1) (by omega) (by omega);have a4:=b5.out u (a9 hu)
   have e0:(Hid (Calls prog 245 #[.pointer (some ⟨bw,0,none⟩),.agg #[.int .i32 (xN u),.int .i64 (xO u)]] wr λen w'=>B_ wr w'/\en= .returned (.pointer none))/\Hid (od L F u=F))\/ ∃j g,Hid (u= .o j)/\Hid (j<s.heap.length)/\Hid (gs[j]?=some g)/\Hid (Calls prog 245 #[.pointer (some ⟨bw,0,none⟩),.agg #[.int .i32 (xN u),.int .i64 (xO u)]] wr λen w'=>B_ wr w'/\en= .returned (.pointer (some ⟨g,0,none⟩))):=by
    have B:=ke HW.out u a4 h4;unfold aI at B;obtain⟨n,rfl⟩ |rfl| ⟨j,rfl,hj⟩:=a4
    .exact Or.inl ⟨B,rfl⟩
    .exact Or.inl ⟨B,rfl⟩
    .obtain⟨g,hg⟩: ∃g,gs[j]?=some g:=⟨_,aM (show j<gs.length by rw[HW.out.lg];exact hj)⟩;simp only[hg,Option.map_some]at B;exact Or.inr ⟨j,g,rfl,hj,hg,B⟩
   clear b hu HA a4;obtain⟨y,x⟩ | ⟨j,g,a7,HJ,G,y⟩:=e0
   .rw[x.out]at r;go_wp2_with fail;refine y.out.mono ?_;rintro en w1 ⟨m,rfl⟩;clear y q0 q1;have d:=hid (HW.out.new m);have l:=ah X m (λ_ _ h=>h);have f:But (· ∈gs) w w1:=H.trans (m.mono (λ_ _ h=>h.elim));go_wp2_with fail
    go_quiet (fail)
    go_wp2_with fail;have a:=bp (λ_=>False) w1 nq
    go_roundg (vs.length-(k+1))
    case measure=>omega
    case rel=>exact⟨_,cap,k+1,F,sn',rfl,by simp,by omega,by omega,by omega,f.trans (a.mono (λ_ _ h=>h.elim)),d.out.new a,ah l a (λ_ _ h=>h),by omega,r.out,T.out⟩
   .go_wp2_with fail;refine y.out.mono ?_;rintro en w1 ⟨m,rfl⟩;clear y q0 q1;have d:=hid (HW.out.new m);have l:=ah X m (λ_ _ h=>h);have f:But (· ∈gs) w w1:=H.trans (m.mono (λ_ _ h=>h.elim));obtain⟨o,g',v,o1,o2,o3,o4,o5⟩:=d.out.obj HJ.out;rw[G.out]at o2
    cases o2
    have m2:=ce2 o4;have f2:=cw w1 g 2 _ _ o4;have c5:=d.out.wd.c5;have J:=ae o4;have C:=d.out.wd.lt;clear o1 o3 o4 o5
    by_cases hs:sn' j=cn
    .rw[hs]at m2
     have x:Hid (od L F u=F):=by
      show _=_
      rw[a7.out];exact if_pos ((T.out j HJ.out).1 hs)
     rw[x.out]at r;go_wp2_with fail
     go_quiet (fail)
     go_wp2_with fail;have a:=bp (λ_=>False) w1 nq
     go_roundg (vs.length-(k+1))
     case measure=>omega
     case rel=>exact⟨_,cap,k+1,F,sn',rfl,by simp,by omega,by omega,by omega,f.trans (a.mono (λ_ _ h=>h.elim)),d.out.new a,ah l a (λ_ _ h=>h),by omega,r.out,T.out⟩
    .have x:Hid (od L F u=F++ [j]):=by
      show _=_
      rw[a7.out];exact if_neg (λh=>hs ((T.out j HJ.out).2 h))
     rw[x.out]at r;go_wp2_with fail
     go_quiet (fail)
     have a:=bp (λ_=>False) w1 nq;have a8:=hid (d.out.new a);have Q:=ah l a (λ_ _ h=>h);have a0:But (· ∈gs) w (w1.drewN nq):=f.trans (a.mono (λ_ _ h=>h.elim));replace m2:=(a.cell (p:=⟨g,2,none⟩) J nF).trans m2;replace f2:=(a.frozen (p:=⟨g,2,none⟩) J nF).trans f2;replace c5:=(a.cell (p:=⟨bw,5,none⟩) C nF).trans c5;replace J:=aP J a.size;replace C:=aP C a.size;clear a d l f;generalize w1.drewN nq=w2 at*;have b0:=hid (a8.out.mark G.out);have b2:g∈gs:=a9 G.out;have O:But (· ∈gs) w (w2.setCell ⟨g,2,none⟩ (.int .i64 cn)):=a0.trans ((aq w2 g 2 _).mono (λk _ e=>by have e:k=g:=e;rw[e];exact b2))
     have A:(w2.setCell ⟨g,2,none⟩ (.int .i64 cn)).ownsRow w.heap.size 315 1 (.slice ao F.length cap) F.length (dF gs F):=ah Q (aq w2 g 2 _) (λk hk e=>by have e:k=g:=e;have:=aC Q k hk;have:=HG.out g b2;omega);have e8:w.heap.size<=(w2.setCell ⟨g,2,none⟩ (.int .i64 cn)).heap.size:=O.size;have a3:(w2.setCell ⟨g,2,none⟩ (.int .i64 cn)).heap.size=w2.heap.size:=cJ _ _ _;have d6:(sn' j !=cn)=true:=by simpa using hs
     have e2:gs.getD j 0=g:=by rw[bM,G.out];rfl
     go_wp2_with (at_builtin;refine wpList_append_lies _ rfl _ _ _ rfl w.heap.size 315 i0 _ 1 8 (by kernel_rfl) e3 f0 f1 f3 rfl (by omega) _ F.length (dF gs F) rfl (A.alloc _) ⟨w2.heap.size,0,none⟩ 1 1 [.pointer (some ⟨g,0,none⟩)] rfl rfl (iO (cs:=#[.pointer (some ⟨g,0,none⟩)]) (t:=315) (fr:=(0,0)) (aw (by rw[a3]) _)) (by simp[Value.oneCell']) (by omega) (by unfold maxLen;omega) (by omega) (by simp only[World.size_alloc];omega) (w2.heap.size+1) (by simp) ?_);intro gg M w4 E D f4 e6;have Z:But (λk'=>(Value.slice ao F.length cap).ownBlock=some k') (w2.setCell ⟨g,2,none⟩ (.int .i64 cn)) w4:=(ag _ _ _).trans (bD D)
     have I: ∀k',(Value.slice ao F.length cap).ownBlock=some k'->w.heap.size<=k':=λk' h=>aC A k' h
     have a1:But (· ∈gs) w w4:=O.next Z (λk' hk' h=>absurd (I k' h) (by omega));have e5: ∀k',qR bw vo vb gs fv k'->k'<w.heap.size:=b4.out;have b9:Hid (WdQ P w0 w4 bw tx inp s vo vb gs fv cn (λi=>if i=j then cn else sn' i)):=b0.out.but Z (λk' h=>by have:=I k' h;omega) (λk' hk' h=>by have:=I k' h;have:=e5 k' hk';omega) (λk' hk' h=>by have:=I k' h;have:=b6.out k' hk';omega)
     have a2:w4.ownsRow w.heap.size 315 1 (.slice (some ⟨gg,0,none⟩) (F++ [j]).length M) (F++ [j]).length (dF gs (F++ [j])):=by
      rw[aV,dF,List.map_append];simp only[List.map_cons,List.map_nil,e2];exact E
     have b7:Hid (∀i,i<s.heap.length->((if i=j then cn else sn' i)=cn↔i∈L++(F++ [j]))):=λi hi=>by
      by_cases e:i=j
      .simp[e]
      .rw[if_neg e,T.out i hi];simp[e]
     clear E D Z b0 A T HW a8;go_wp2_with fail
     go_roundg (vs.length-(k+1))
     case measure=>omega
     case rel=>exact⟨_,M,k+1,F++ [j],_,by simp,by simp,by omega,by omega,by omega,a1,b9,a2,by simp;omega,r,b7⟩
  .have S:RS=F:=by rw[<-HR.out,<-HA.out,g8 (by omega)]
   have a6:=hid S;clear S HA;have e1: ¬(k:Int)<(vs.length:Int):=by omega
   go_wp2_with fail;exact cV (.slice ao F.length cap) results247 rfl rfl ⟨H,_,rfl,by rw[a6.out];exact X,sn',HW.out,by rw[a6.out];simpa only[List.mem_append]using T.out⟩
end
theorem pA (b:Nat) (cs:List bP) (c:UInt8) (w:World) (hn:cs.length<=100) (hT:TxC w b cs) (hf:(bV cs c).length<=1000):
  Calls prog 231 #[.pointer (some ⟨b,0,none⟩),.int .u8 c.toNat] w λe w'=>e= .returned (.int .i64 (1+(bV cs c).length:Nat))/\w'=w:=by
 have a:=hid (nM b cs c w hn hT);have d:=dV (1+((bV cs c).length:Int)) (by omega) (by omega)
 go_in
 go_wp2_with fail;refine a.out.mono ?_;rintro en w1 ⟨rfl,rfl⟩;go_wp2_with fail;go_ret;exact⟨by simp,rfl⟩
theorem xZ (gs l m:List Nat):dF gs (l++m)=dF gs l++dF gs m:=by simp[dF]
theorem ya (gs l:List Nat):(dF gs l).length=l.length*1:=by simp[dF]
theorem yb (gs l:List Nat): ∀u∈dF gs l,u.oneCell'=true:=by
 intro u a;obtain⟨x,_,rfl⟩:=List.mem_map.1 a
 rfl
theorem wi (w:World) (ty:TypeId) (base bx:Nat) (v xv:Value) (gs l m:List Nat) (hown:w.ownsRow base 315 1 v l.length (dF gs l)) (hx:w.ownsRow bx 315 1 xv m.length (dF gs m)) (hlen:l.length+m.length<=100000) (hbase:base<=w.heap.size):
  ∃v' w',(Builtin.append_ #[209,209] ty #[v,xv]).run prog w= .ok v' w'/\w'.ownsRow base 315 1 v' (l++m).length (dF gs (l++m))/\But (λk=>v.ownBlock=some k) w w':=by
 obtain⟨x,d,r,f,s⟩:=info_parts wh;have p:prog.underlying 209=some (.slice 315):=by kernel_rfl
 obtain⟨ax,cx,rfl⟩:=aA hx
 cases ax with
 |none=>
  have hm:m.length=0:=by
   obtain h|h:=Nat.eq_zero_or_pos m.length
   .exact h
   .obtain⟨g,B,_⟩:=aL hx h
    cases B
  have n:m=[]:=List.length_eq_zero_iff.1 hm;subst n;obtain⟨ao,cap,rfl⟩:=aA hown
  have t:l.length<=cap:=by
   obtain⟨y,_⟩ | ⟨g',cap',cur,q,_,_,hn,_⟩:=hown.2
   .injection y with _ a b;omega
   .injection q with _ _ e3;omega
  refine⟨_,w,run_append_nothing w _ _ ty 315 x p d ao l.length cap (by omega) _ (by rw[f];exact Src.ofNil w p cx),by simpa using hown,cq _ _⟩
 |some ad=>
  have c: ∀j u,(dF gs m)[j]?=some u->w.cell? (ad.add j)=some u:=by
   intro j u C;obtain⟨g,cap',q,hc,_⟩:=ki hx C
   have z:ad=⟨g,0,none⟩:=by
    have i:=congrArg (λv=>match v with|Value.slice a _ _=>a|_=>none) q;exact Option.some.inj i
   rw[z];have e:(⟨g,0,none⟩:Addr).add j=⟨g,j,none⟩:=by simp[Addr.add];exact λh=>h.symm
   rw[e];exact hc
  obtain⟨v',w',D,i,A,_,E⟩:=run_append_own_at (P:=prog) w base _ ty 315 x _ 1 8 p d r f s rfl (by omega) v l.length (dF gs l) hown ad m.length cx (dF gs m) (ya gs m) c (yb gs m) (by unfold maxLen;omega) (by omega) hbase;refine⟨v',w',D,?_,bD A⟩;rw[xZ,aV];exact i
theorem qY {w:World} {ops:Array Oper} {rest:List Oper} {o:Oper} {a:Act} {Q:Exit->Act->World->Prop} (hgd:o.guard=none) (s x:Operand)
  (ho:o.op= .call {callee:= .builtin .append,args:=#[s,x],argTypes:=#[209,209]}) (base bx:Nat) (v xv:Value) (gs l m:List Nat) (hs:a.eval s=v) (hx:a.eval x=xv) (hown:w.ownsRow base 315 1 v l.length (dF gs l)) (hxo:w.ownsRow bx 315 1 xv m.length (dF gs m)) (hlen:l.length+m.length<=100000) (hbase:base<=w.heap.size)
  (h: ∀ao cap w',w'.ownsRow base 315 1 (.slice ao (l++m).length cap) (l++m).length (dF gs (l++m))->But (λk=>v.ownBlock=some k) w w'->wpList prog ops Q rest (a.put o.dst (.slice ao (l++m).length cap)) w'):wpList prog ops Q (o::rest) a w:=by
 refine wpList_plain hgd λK hK=> ?_
 obtain⟨v',w',d,b,c⟩:=wi w o.type base bx v xv gs l m hown hxo hlen hbase;obtain⟨ao,cap,rfl⟩:=aA b;unfold Oper.wp execOp;simp only[ho,resolve,invoke,builtin,Sem.run_bind,Sem.run_pure,Result.andThen_ok,List.map_toArray,List.map_cons,List.map_nil,hs,hx,d];exact hK _ _ (h ao cap w' b c)
def oX (cs:List bP) (hp:List Ob):Prop:= ∀o∈hp,(∃a:UInt8,a.toNat=65+o.cls/\(bV cs a).length=o.fs.length)/\o.fs.length<=100/\ ∀u∈o.fs,kw hp.length u
section
variable {P:Nat->Prop} {w0 w w':World} {bw tx:Nat} {inp:ByteArray} {s:Ev} {vo vb:Value} {gs:List Nat} {fv:List Value} {cn:Int} {sn:Nat->Int}
theorem wj {hp:List Ob} {cs:List bP} (h:oX cs hp) (k:Nat):lp hp k<=101:=by
 unfold lp;rcases hk:hp[k]? with _|o
 .simp
 .have:=(h o (a9 hk)).2.1;simp;omega
theorem yc (f:Nat->Nat) (b:Nat) (hf: ∀k,f k<=b): ∀l:List Nat,(l.map f).sum<=b*l.length
 | []=>by simp
 |k::l=>by
  have a:=yc f b hf l;have c:=hf k;simp only[List.map_cons,List.sum_cons,ie,Nat.mul_add,Nat.mul_one];omega
theorem wk (h:WdQ P w0 w bw tx inp s vo vb gs fv cn sn) (h4:s.heap.length<=4000) (hcn:cn<=100000) (b1 ca:Nat) (av:Option Addr) (vs:List V) (hv:w.ownsRow b1 168 2 (.slice av vs.length ca) vs.length (az vs)) (hvl:vs.length<=90000)
  (hok: ∀u∈vs,kw s.heap.length u) (cs:List bP) (hn:cs.length<=100) (hT:TxC w0 tx cs) (hob:oX cs s.heap):
  Calls prog 230 #[.pointer (some ⟨bw,0,none⟩),.slice av vs.length ca] w λen w'=>en= .returned (.int .i64 (fk s.heap (λk=>V.o k∈vs)))/\But (λk=>k=bw\/k∈gs) w w'/\ ∃sn',WdQ P w0 w' bw tx inp s vo vb gs fv (cn+1) sn':=by
 obtain⟨RS,G⟩: ∃RS,fk s.heap (λk=>V.o k∈vs)=RS:=⟨_,rfl⟩;rw[G];have HR:=hid G;clear G;have e6:=h.se.1;have c5:=h.wd.c5;have f5:=h.wd.fz 5;have f3:=h.wd.lt;have g5:=dV (cn+1) (by omega) (by omega);have HC:=hid (h.count (cn+1) (by omega));have e5:But (λk=>k=bw\/k∈gs) w (w.setCell ⟨bw,5,none⟩ (.int .i64 (cn+1))):=(aq _ _ _ _).mono (λ_ _ h=>Or.inl h);have b6:=ah hv (aq w bw 5 (.int .i64 (cn+1))) (λk hk e=>by have e:k=bw:=e;exact aE hv h.wd (by decide) (e▸hk));have c:=hid (qX HC.out h4 (by omega) b1 ca av vs b6 hvl hok [] (λj _=>⟨λe=>by have:=(h.se.2 j).2;omega,λe=>by cases e⟩));have e3:=hid (qB hok)
 have g1:=vj [] vs;have e8:(w.setCell ⟨bw,5,none⟩ (.int .i64 (cn+1))).heap.size=w.heap.size:=cJ _ _ _;have HG:Hid (∀k,k∈gs->k<w.heap.size):=λk hk=>h.lt (Or.inr (Or.inr (Or.inr (Or.inl hk))))
 have b8:Hid (∀k',qR bw vo vb gs fv k'->k'<w.heap.size):=λk hk=>h.lt hk
 have b9:Hid (∀k',P k'->k'<w.heap.size):=λk hk=>(h.pl k hk).1
 have e9:=h.old.size;have M:=hid hob;clear h hv b6 hok hob
 go_in
 go_wp2_with fail;refine c.out.mono ?_;rintro en w1 ⟨e4,v1,rfl,E,f0,a8,a6⟩;clear c c5 f5;rw[e8]at E;obtain⟨a1,cap1,rfl⟩:=aA E;generalize lx [] vs=F0 at*;have a2:But (λk=>k=bw\/k∈gs) w w1:=e5.trans (e4.mono (λ_ _ h=>Or.inr h));have e0:=hid a8;have c6:=hid a6;clear a8 a6;go_wp2_with fail
 go_loopg [5,6,7] s.heap.length (λmm cv fvv is wr=> ∃(ao:Option Addr) (cap i:Nat) (F:List Nat) (sn':Nat->Int),fvv= .slice ao F.length cap/\is= .int .i64 i/\cv= .int .i64 ((F.take i).map (lp s.heap)).sum/\i<=F.length/\i+mm<=s.heap.length/\s.heap.length<=i+mm/\But (λk=>k=bw\/k∈gs) w wr/\Hid (WdQ P w0 wr bw tx inp s vo vb gs fv (cn+1) sn')/\wr.ownsRow w.heap.size 315 1 (.slice ao F.length cap) F.length (dF gs F)/\
  Hid (vk s.heap vs i F)/\Hid (∀j,j<s.heap.length->(sn' j=cn+1↔j∈F)))
 case atStart=>exact⟨a1,cap1,0,F0,f0,rfl,rfl,by simp,by omega,by omega,by omega,a2,e0,E,e3,by simpa using c6⟩
 case round=>
  obtain⟨ao,cap,i,F,sn',rfl,rfl,rfl,f6,f7,f8,D,B,hO,HK,HS⟩:=hrel
  by_cases hlt:i<F.length
  .obtain⟨j,hj⟩: ∃j,F[i]?=some j:=⟨_,aM hlt⟩;have e7:=HK.out.lt j (a9 hj);have f2:=oe HK.out;obtain⟨o,g,v,o1,o2,o3,o4,o5⟩:=B.out.obj e7;obtain⟨⟨a,ha,b3⟩,g2,I⟩:=M.out o (a9 o1);have b4:gs.getD j 0=g:=by rw[bM,o2];rfl
   have b2:lp s.heap j=1+o.fs.length:=by unfold lp;rw[o1];rfl
   have J:=hid (sc HK.out hj o1 I);have A:=hid (λ(Y:World) (hY:B_ w0 Y)=>pA tx cs a Y hn (hT.but hY) (by omega));rw[b3]at A;have c:=hid (λ(Y:World) (hY:B_ wr Y) (a':Option Addr) (c':Nat) (e:v= .slice a' o.fs.length c')=>qX (B.out.new hY) h4 (by omega) w0.heap.size c' a' o.fs (e▸ah o5 hY (λ_ _ h=>h)) (by omega) I F HS.out);obtain⟨af,cf,rfl⟩:=aA o5;have f:=yc (lp s.heap) 101 (wj M.out) (F.take i);have b5:(F.take i).length=i:=by rw[List.length_take];omega
   have O:Hid (((((F++lx F o.fs).take (i+1)).map (lp s.heap)).sum=((F.take i).map (lp s.heap)).sum+(1+o.fs.length))):=by
    show _=_
    rw[List.take_append_of_le_length (by omega),kj hlt,List.map_append,List.sum_append];have:F[i]=j:=(bn hj).2;rw[this,List.map_cons,List.map_nil,List.sum_cons,List.sum_nil,b2];omega
   obtain⟨SM,H⟩: ∃SM,((F.take i).map (lp s.heap)).sum=SM:=⟨_,rfl⟩;rw[H]at f O;rw[H];clear H;have g3:SM<=404000:=by rw[b5]at f;omega
   have g0:=vj F o.fs;obtain⟨gF,r1,n,f4,d⟩:=aL hO (by omega);subst r1;have q0:wr.cell? ⟨gF,i,none⟩=some (.pointer (some ⟨g,0,none⟩)):=d _ _ (by unfold dF;rw[cg,hj];simp only[Option.map_some,b4]);have x0:wr.cell? ⟨g,0,none⟩=some (.int .u8 a.toNat):=by rw[bU wr g 0 _ _ (0,0) o4,ha];rfl
   have x1:=ce1 o4;have t0:=B.out.wd.c0;have q:=ae o4;have y:=B.out.wd.lt;have r:=hid B.out.old;have e1:(i:Int)<(F.length:Int):=by omega
   have g4:=dV ((i:Int)+1) (by omega) (by omega);have g6:=dV ((SM:Int)+(1+(o.fs.length:Int))) (by omega) (by omega);clear d o1 o3 o4 o5 hj ha b3 b2 b4 I f b5;go_wp2_with fail;have b:B_ wr wr.drew:=aD _ _;refine aF (B_ wr) 15 ?_
   iterate 12 (refine aN (v:=?_) rfl b ?_ ?_;rotate_left;(focus (intro wS h;have Q0:=((h.cell (p:=⟨bw,0,none⟩) y nF).trans t0);have Q1:=((h.cell (p:=⟨gF,i,none⟩) n nF).trans q0);have Q2:=((h.cell (p:=⟨g,0,none⟩) q nF).trans x0);clear h;go_simp;try rfl));dsimp only[Act.put];try simp only[bW])
   refine au rfl ?_;intro KS hKS;go_simp;refine(A.out _ (r.out.trans b)).mono ?_;rintro en wx ⟨rfl,rfl⟩;refine hKS.out _ _ (λ_=>b) ?_;clear hKS KS;refine au rfl ?_;intro KS hKS;go_simp;refine hKS.out _ _ (λ_=>b) ?_;clear hKS KS;refine au rfl ?_;intro KS hKS;go_simp;refine hKS.out _ _ (λ_=>b) ?_;clear hKS KS;refine aK rfl ?_;have l:=ah hO b (λ_ _ h=>h);have Z:But (λk=>k=bw\/k∈gs) w wr.drew:=D.trans (b.mono (λ_ _ h=>h.elim));replace q0:=(b.cell (p:=⟨gF,i,none⟩) n nF).trans q0;replace x1:=(b.cell (p:=⟨g,1,none⟩) q nF).trans x1;replace n:=aP n b.size;replace q:=aP q b.size;have Q:=hid (c.out _ b af cf rfl)
   clear c A t0 x0 B HS hO D y r b;generalize wr.drew=w2 at*;go_wp2_with fail;refine Q.out.mono ?_;rintro en w3 ⟨X,v3,rfl,a3,b7,b0,a7⟩;have t:But (λk=>k=bw\/k∈gs) w w3:=Z.trans (X.mono (λ_ _ h=>Or.inr h));have x:=ah l X (λk hk hg=>by have:=aC l k hk;have:=HG.out k hg;omega);have m: ∀k',(Value.slice (some ⟨gF,0,none⟩) F.length cap).ownBlock=some k'->w.heap.size<=k':=λk' h=>aC l k' h
   have S:=hid b0;have d6:=hid a7;clear Q l b0 a7 q0 x1;generalize lx F o.fs=F3 at*;go_wp2_with (at_builtin;refine qY rfl _ _ rfl w.heap.size _ _ v3 gs F F3 rfl rfl x a3 (by omega) t.size ?_);intro a4 T w4 a5 C;have a0:But (λk=>k=bw\/k∈gs) w w4:=t.next C (λk' hk' h=>absurd (m k' h) (by omega));have e2:Hid (WdQ P w0 w4 bw tx inp s vo vb gs fv (cn+1) b7):=S.out.but C (λk' h=>by have:=m k' h;omega) (λk' hk' h=>by have:=m k' h;have:=b8.out k' hk';omega) (λk' hk' h=>by have:=m k' h;have:=b9.out k' hk';omega);have L:=hid a5;have f1:=oe J.out;clear a5 S x a3 C;go_wp2_with fail
   go_roundg (s.heap.length-(i+1))
   case measure=>omega
   case rel=>exact⟨a4,T,i+1,F++F3,b7,by simp,by simp,by rw[O.out];simp,by simp;omega,by omega,by omega,a0,e2,by first|exact L.out| (rw[aV];exact L.out),J,d6⟩
  .have z:((F.take i).map (lp s.heap)).sum=RS:=by rw[<-HR.out,vm HK.out (by omega),g8 (by omega)]
   rw[z];have e1: ¬(i:Int)<(F.length:Int):=by omega
   clear z;go_wp2_with fail;go_ret;exact⟨rfl,D,sn',B.out⟩
end
end
end Go.Proofs.YtpfkkmacakjmbaaGreatDoor
