import Derived.Test.YtpfkkmacakjmbaaGreatDoorP40
import Derived.Test.YtpfkkmacakjmbaaGreatDoorP43
import Derived.Test.YtpfkkmacakjmbaaGreatDoorP45
import Derived.Test.YtpfkkmacakjmbaaGreatDoorP04
import Derived.Stop.LaidErr
set_option maxRecDepth 100000
set_option maxHeartbeats 6400000
set_option linter.unusedSimpArgs false
set_option linter.unusedVariables false
namespace Go.Proofs.YtpfkkmacakjmbaaGreatDoor
section
open Go Go.RowKit Sp
attribute [local go_sem ↓] Go.wp_at_zero Go.wp_at_succ
def su (f:Nat) (args:Array Value) (r:Value):Prop:= ∀w,eP w→Calls Tryz.prog f args w fun en w'=>en= .returned r∧But (fun _=>False) w w'
theorem yJ {p q:Int}
  (h1:su 18 #[.string ⟨#[59,59,59,58,107,49,107,50,43,116,46]⟩] (.tuple #[.int .i64 0,.int .i64 p]))
  (h2:su 19 #[.string ⟨#[59,59,59,58,107,49,107,50,43,116,46]⟩] (.tuple #[.string ⟨#[124,44,105,124,44,105,105,124,44,105,124,44,59]⟩,.int .i64 0]))
  (h3:su 32 #[.string ⟨#[59,59,59,58,107,49,119,107,50,119,107,51,116,46]⟩,.string ⟨#[]⟩,.int .i64 0,.int .i64 9] (.tuple #[.string ⟨#[49,32,50,32]⟩,.int .i64 3,.int .i64 0]))
  (h4:su 33 #[.string ⟨#[45,46,65,46,65,46,59,59,59,65,58,115,48,105,49,110,66,110,67,46]⟩] (.tuple #[.int .i64 0,.int .i64 q]))
  (h5:su 34 #[.string ⟨#[59,59,59,105,58,44,111,60,108,48,53,44,119,108,48,115,48,43,108,48,49,108,48,46]⟩,.string ⟨#[]⟩,.int .i64 200] (.tuple #[.string ⟨#[48,32,49,32,50,32,51,32,52,32]⟩,.int .i64 5,.int .i64 0]))
  (h6: ∀w,eP w→Calls Tryz.prog 35 #[.string ⟨#[59,59,59,58,43,51,52,46]⟩] w fun en w'=>(∃s:ByteArray,en= .returned (.tuple #[.string s,.int .i64 0])∧0<s.size)∧But (fun _=>False) w w')
  (w:World) (ht:eP w):Calls Tryz.prog 17 #[] w fun en w'=>en= .returned (.bool true)∧But (fun _=>False) w w':=by
 have H2:=hid (fun w1 h=>h2 w1 (ht.but h));have H3:=hid (fun w1 h=>h3 w1 (ht.but h));have H4:=hid (fun w1 h=>h4 w1 (ht.but h));have H5:=hid (fun w1 h=>h5 w1 (ht.but h));have H6:=hid (fun w1 h=>h6 w1 (ht.but h));have H1:=hid (h1 w ht);clear h1 h2 h3 h4 h5 h6 ht
 go_in
 go_wp2_with fail;refine H1.out.mono ?_;rintro en w1 ⟨rfl,a4⟩;go_wp2_with fail;refine(H2.out _ a4).mono ?_;rintro en w2 ⟨rfl,a0⟩;replace a0:=a4.trans a0;go_wp2_with fail;refine(H3.out _ a0).mono ?_;rintro en w3 ⟨rfl,a1⟩;replace a1:=a0.trans a1;go_wp2_with fail;refine(H4.out _ a1).mono ?_;rintro en w4 ⟨rfl,a2⟩;replace a2:=a1.trans a2;go_wp2_with fail;refine(H5.out _ a2).mono ?_;rintro en w5 ⟨rfl,a3⟩;replace a3:=a2.trans a3;go_wp2_with fail;refine(H6.out _ a3).mono ?_;rintro en w6 ⟨⟨s,rfl,hs⟩,a5⟩;replace a5:=a3.trans a5
 have a6:s.toList.isEmpty=false:=by
  obtain⟨d⟩:=s;rw[ByteArray.toList_eq]
  show d.toList.isEmpty=false
  have:0<d.size:=hs
  cases h:d.toList with
  |nil=>rw[←Array.length_toList,h]at this;cases this
  |cons=>rfl
 clear H1 H2 H3 H4 H5 H6 a4 a0 a1 a2 a3 hs;go_wp2_with fail;refine(eQ _ _).mono ?_;rintro en w7 ⟨rfl,rfl⟩;go_wp2_with fail;refine(eQ _ _).mono ?_;rintro en w7 ⟨rfl,rfl⟩;go_wp2_with fail;refine(eQ _ _).mono ?_;rintro en w7 ⟨rfl,rfl⟩;go_wp2_with fail;refine(eQ _ _).mono ?_;rintro en w7 ⟨rfl,rfl⟩;go_wp2_with fail;refine(eQ _ _).mono ?_;rintro en w7 ⟨rfl,rfl⟩;go_wp2_with fail;refine(eQ _ _).mono ?_;rintro en w7 ⟨rfl,rfl⟩;go_wp2_with fail
 all_goals go_ret
 all_goals exact⟨rfl,a5⟩
end
section
open Go Sp
theorem yK:fJ ⟨#[59,59,59,58,107,49,107,50,43,116,46]⟩=(0,0):=by decide+kernel
theorem yL:ff ⟨#[59,59,59,58,107,49,107,50,43,116,46]⟩=([124,44,105,124,44,105,105,124,44,105,124,44,59],0):=by decide+kernel
theorem zU:eC ⟨#[45,46,65,46,65,46,59,59,59,65,58,115,48,105,49,110,66,110,67,46]⟩=(0,0):=by decide+kernel
theorem zV:eC ⟨#[59,59,59,58,43,51,52,46]⟩=(0,0):=by decide+kernel
end
section
open Go Go.RowKit Sp
attribute [local go_sem ↓] Go.wp_at_zero Go.wp_at_succ
def bR:Bod:=⟨-1,-1,[],[⟨107,0,1,4⟩,⟨119,0,0,6⟩,⟨107,0,2,7⟩,⟨119,0,0,9⟩,⟨107,0,3,10⟩,⟨116,0,0,12⟩]⟩
def imR:Img:=⟨[],[],[bR]⟩
def tR:eJ:=[[some ([],[]),some ([105],[]),some ([],[]),some ([105],[]),some ([],[]),some ([105],[])]]
def fR (i:Nat):Fm:=⟨0,i,if i % 2=1 then [.i ((i / 2+1:Nat):Int)]else [],[]⟩
def oR (i:Nat):List UInt8:=if i≤1 then []else if i≤3 then [49,32]else [49,32,50,32]
def JR (f:Fm) (fs:List Fm) (s:Ev) (_:Nat):Prop:=fs=[]∧ ∃i,i≤5∧f=fR i∧s=⟨[],0,0,oR i⟩
section
variable {w0 w:World} {mb tx:Nat} {tv:Value} {bw cells:Nat} {inp:ByteArray}
theorem ww (hT:dE w0 tx imR) (ht:eP w0):yz JR w0 imR tR mb tx tv bw cells inp:=by
 rintro w r rs f fs s vo vb gs fv cn sn ans n hM ⟨rfl,i,hi,rfl,rfl⟩ b0
 have hb:r.b=bR:=by
  have:=hM.fr.1.hb;exact(Option.some.inj this).symm
 have a7:rs=[]:=by
  cases rs with
  |nil=>rfl
  |cons q rs=>exact hM.fr.2.1.elim
 subst a7;have a2:(imR.classes.map toX).length≤100:=by decide
 have a3:imR.sigs.length≤100:=by decide
 have a1:(aW imR.sigs r.b).items.length≤100:=by rw[hb];decide
 have a4:(fR i).stk.length≤4000:=by unfold fR;dsimp only;split<;>simp
 have K: ∀(x:Ins),bR.code[i]?=some x→x.op.toNat=107→x.b<100→(fR i).stk=[]→Calls Tryz.prog 88 #[.pointer (some ⟨mb,0,none⟩)] w (fun en w'=> ∃e,en= .returned (.int .i64 e)∧um w0 imR tR mb tx tv bw cells ans inp cn (.go ⟨[⟨0,i+1,[.i x.b],[]⟩],⟨[],0,0,oR i⟩⟩) e w'):=by
  intro x hx ho a8 hk;refine(ul true hM hT a2 a3 a4 (by show i≤1000;omega) a1 (bj x) (by rw[hb];show(bR.code.map bj)[i]?=_;rw[List.getElem?_map,hx];rfl) 0 (by simp[az,bj,ho]) (by omega) (by omega) (by simp only[bj];omega) (by simp[aH,bj,ho]) (.ok (.i x.b) [] ⟨[],0,0,oR i⟩) (fun P' X hX=> ?_)).mono ?_
  ·rw[si ho];exact z7 hX _ _ _ _ _ _ _ _ a8
  ·rintro en w1 ⟨e,rfl,u,e',s',vo',vb',gs',fv',sn',r',h1,a0,h3⟩;refine⟨e,rfl,?_⟩;injection a0 with a0;injection a0 with _ a0;subst a0;obtain⟨rfl,rfl,rfl⟩:=h1;simp only[tkR,hk]at h3;exact⟨rfl,_,vo',vb',gs',fv',cn,sn',by omega,h3⟩
 have Wr: ∀(x:Ins) (m:Nat),bR.code[i]?=some x→x.op.toNat=119→m≤9→(fR i).stk=[.i (m:Int)]→oR i++Lib.itoa (m:Int)++ [32]=oR (i+1)→Calls Tryz.prog 88 #[.pointer (some ⟨mb,0,none⟩)] w (fun en w'=> ∃e,en= .returned (.int .i64 e)∧um w0 imR tR mb tx tv bw cells ans inp cn (.go ⟨[⟨0,i+1,[],[]⟩],⟨[],0,0,oR (i+1)⟩⟩) e w'):=by
  intro x m hx ho hm hk he;rw[←he];refine(ul false hM hT a2 a3 a4 (by show i≤1000;omega) a1 (bj x) (by rw[hb];show(bR.code.map bj)[i]?=_;rw[List.getElem?_map,hx];rfl) 1 (by simp[az,bj,ho]) (by omega) (by rw[hk];simp) (by simp only[bj];omega) (by simp[aH,bj,ho]) (.ok (.i 0) [] (Ev.say ⟨[],0,0,oR i⟩ m)) (fun P' X hX=> ?_)).mono ?_
  ·rw[si ho];simp only[tkA,tkB,hk,er];exact z9 hX ht m (by omega) (by omega) (by show(oR i).length≤90000;unfold oR;split;simp;split<;>simp) _ _ _ _ _ _ _
  ·rintro en w1 ⟨e,rfl,u,e',s',vo',vb',gs',fv',sn',r',h1,a0,h3⟩;refine⟨e,rfl,?_⟩;injection a0 with a0;injection a0 with _ a0;subst a0;obtain⟨rfl,rfl,rfl⟩:=h1;simp only[tkR,hk,cO]at h3;exact⟨rfl,_,vo',vb',gs',fv',cn,sn',by omega,h3⟩
 have h6:i=0∨i=1∨i=2∨i=3∨i=4∨i=5:=by omega
 rcases h6 with rfl|rfl|rfl|rfl|rfl|rfl
 ·have e:jE imR inp tR cells ⟨[fR 0],⟨[],0,0,oR 0⟩⟩= .go ⟨[fR 1],⟨[],0,0,oR 1⟩⟩:=by kernel_rfl
  rw[e];exact⟨K _ rfl rfl (by decide) rfl,_,[],rfl,rfl,1,by omega,rfl,rfl⟩
 ·have e:jE imR inp tR cells ⟨[fR 1],⟨[],0,0,oR 1⟩⟩= .go ⟨[fR 2],⟨[],0,0,oR 2⟩⟩:=by kernel_rfl
  rw[e];exact⟨Wr _ 1 rfl rfl (by omega) rfl (by kernel_rfl),_,[],rfl,rfl,2,by omega,rfl,rfl⟩
 ·have e:jE imR inp tR cells ⟨[fR 2],⟨[],0,0,oR 2⟩⟩= .go ⟨[fR 3],⟨[],0,0,oR 3⟩⟩:=by kernel_rfl
  rw[e];exact⟨K _ rfl rfl (by decide) rfl,_,[],rfl,rfl,3,by omega,rfl,rfl⟩
 ·have e:jE imR inp tR cells ⟨[fR 3],⟨[],0,0,oR 3⟩⟩= .go ⟨[fR 4],⟨[],0,0,oR 4⟩⟩:=by kernel_rfl
  rw[e];exact⟨Wr _ 2 rfl rfl (by omega) rfl (by kernel_rfl),_,[],rfl,rfl,4,by omega,rfl,rfl⟩
 ·have e:jE imR inp tR cells ⟨[fR 4],⟨[],0,0,oR 4⟩⟩= .go ⟨[fR 5],⟨[],0,0,oR 5⟩⟩:=by kernel_rfl
  rw[e];exact⟨K _ rfl rfl (by decide) rfl,_,[],rfl,rfl,5,by omega,rfl,rfl⟩
 ·have e:jE imR inp tR cells ⟨[fR 5],⟨[],0,0,oR 5⟩⟩= .fin (.i 3) (oR 5):=by kernel_rfl
  rw[e];refine⟨?_,⟨3,rfl,by decide,by decide⟩,rfl⟩;have hx:(aW imR.sigs r.b).items[5]?=some (bj ⟨116,0,0,12⟩):=by rw[hb];rfl
  have a5:(az (imR.classes.map toX) imR.sigs (bj ⟨116,0,0,12⟩).op (bj ⟨116,0,0,12⟩).cls (bj ⟨116,0,0,12⟩).num (aW imR.sigs r.b).ans).length=1:=by rw[hb];rfl
  refine uk (fun e w'=>um w0 imR tR mb tx tv bw cells ans inp cn (.fin (.i 3) (oR 5)) e w') hM hT a2 a3 a4 a1 _ hx (by omega) (by rw[a5];decide) (fun Y sv' hM=> .inr (.inr (.inl ⟨rfl,?_⟩)));rw[a5]at hM⊢;refine(AM hM _).mono ?_;rintro en w1 ⟨rfl,a6⟩;exact⟨rfl,rfl,_,_,_,_,_,_,_,rfl,a6⟩
end
theorem lR:da ⟨#[59,59,59,58,107,49,119,107,50,119,107,51,116,46]⟩= .ok imR:=by kernel_rfl
theorem Bw:dO imR 0 imR.bodies= .ok tR:=by kernel_rfl
theorem Bx:sH imR ⟨#[]⟩ tR 0 9=([49,32,50,32],3,0):=by kernel_rfl
theorem By (w:World) (htab:eP w):
  Calls Tryz.prog 32 #[.string ⟨#[59,59,59,58,107,49,119,107,50,119,107,51,116,46]⟩,.string ⟨#[]⟩,.int .i64 0,.int .i64 9] w fun en w'=>en= .returned (.tuple #[.string ⟨#[49,32,50,32]⟩,.int .i64 3,.int .i64 0])∧But (fun _=>False) w w':=by
 have key:Calls Tryz.prog 36 #[.string ⟨#[59,59,59,58,107,49,119,107,50,119,107,51,116,46]⟩] w fun en w'=>But (fun _=>False) w w'∧ ∃g ao n cap,en= .returned (.agg #[.int .i64 0,.int .i64 0,.pointer (some ⟨g,0,none⟩),.slice ao n cap])∧dE w' g imR∧ ∃l,l.length=n∧l.map (·.2)=tR∧fi w' w.heap.size (.slice ao n cap) l:=by
  refine(ix _ w (by unfold maxLen;decide)).mono ?_;rintro en w' ⟨hB,hE⟩;refine⟨hB,?_⟩;unfold iK at hE;rw[lR]at hE;simp only at hE;rw[Bw]at hE;obtain⟨g,ao,cap,l,h1,h2,h3,h4⟩:=hE;exact⟨g,ao,l.length,cap,h1,h4,l,rfl,h2,h3⟩
 have HK:=hid key;clear key
 go_in
 go_wp2_with fail;refine HK.out.mono ?_;rintro en w1 ⟨a1,g,ao,n,cap,rfl,a0,l,hl,a3,hX⟩
 have HE:Hid (∀ob,Calls Tryz.prog 58 #[.pointer (some ⟨g,0,none⟩),.slice ao n cap,.string ⟨#[]⟩,.int .i64 0,.int .i64 9] (w1.alloc ob) fun en w'=>en= .returned (.tuple #[.string ⟨#[49,32,50,32]⟩,.int .i64 3,.int .i64 0])∧But (fun _=>False) (w1.alloc ob) w'):=fun ob=>by
  have hA:But (fun _=>False) w1 (w1.alloc ob):=But.alloc _ _ _;have:=zN (J:=JR) (inp:=⟨#[]⟩) (cells:=0) (fuel:=9) (a0.but hA) (mY lR) rfl (bs:=[]) (m:=bR) rfl ⟨rfl,0,by omega,rfl,rfl⟩ (fun mb bw=>ww (a0.but hA) ((htab.but a1).but hA)) (hX.but hA) a3 (by omega);rw[Bx]at this;exact this
 clear a0 hX HK;go_wp2_with fail;refine(HE.out _).mono ?_;rintro en w2 ⟨rfl,a2⟩;clear HE;go_wp2_with fail;refine(B1 0 (Or.inl rfl) w2).mono ?_;rintro en w3 ⟨rfl,rfl⟩;go_wp2_with fail;exact bodyPost_ret (v:= .tuple #[.string ⟨#[49,32,50,32]⟩,.int .i64 3,.int .i64 0]) (by simp[results,Tryz.results32,go_sem]) rfl ⟨rfl,(a1.trans (But.alloc _ _ _)).trans a2⟩
def AP (c:UInt8):Bool:=bu c|| [108,115,119,44,43,60,111].contains c.toNat
section
variable {P:Nat→Prop} {w0 w:World} {be bw tx bl:Nat} {inp:ByteArray} {s:Ev} {lv vo vb:Value} {l:List V} {gs:List Nat} {fv:List Value} {im:Img} {b:Bod} {bf d:Nat} {Xb:ba} {vl vi:Value}
theorem zW {f:Nat} (htab:eP w0) (hR:dF im) (hfew: ∀b∈im.bodies,∀x∈b.code,AP x.op=true):DoC im inp w0 be bw tx f:=by
 intro P w s bl lv l vo vb gs fv b bf d Xb vl vi B ts tt h hF a6 hs d6 hd x a8 a7 b3 a3 a4 u v hu hv a0 pl pn pc pa;have hW:=hR.wf;have a5:=hW.nc;have hx:=(hW.bod b a6).code x a8;have hf:=hfew b a6 x a8;simp only[AP,Bool.or_eq_true]at hf;unfold doV itN;rcases hf with h1|h1
 ·obtain⟨e1,e2⟩:=rZ h1;have c7:48≤x.op.toNat∧x.op.toNat≤57:=by simpa[bu]using h1
  have h0:aw x.op=0:=by
   unfold aw;rw[if_neg a3,if_neg (by simp;omega),if_neg (by simp;omega)]
  rw[if_pos h0,e1,e2,show lq im inp x l s= .ok (.i x.b) l s from by unfold lq;rw[if_neg (by omega),if_neg (by omega),if_neg (by omega),if_neg (by omega)]];exact nh h u v pl 107 x.b pn pc _ pa _ (by decide) (by decide) (by decide) (by decide) (fun X hX=>AG (h.grown hX) ⟨rfl,rfl⟩ (z7 (h.grown hX).wq u v pl x.b pn pc _ pa hx.num))
 have h2:x.op.toNat=108∨x.op.toNat=115∨x.op.toNat=119∨x.op.toNat=44∨x.op.toNat=43∨x.op.toNat=60:=by simp at h1;omega
 obtain⟨e1,e2,_⟩:=kM (x:=x) (by omega);rw[e1,e2];have hA: ∀n,aw x.op=n→ts.length=n:=fun n e=>by rw[a4,e]
 rcases h2 with h1|h1|h1|h1|h1
 ·rw[if_pos (by simp[aw,h1]),h1,show lq im inp x l s= .ok (l.getD x.b .z) l s from by unfold lq;rw[if_neg (by omega),if_neg (by omega),if_pos h1]];have hb:=hx.loc (Or.inl h1);rw[←a7.len]at hb;exact Bd h hF u v pl x.b pn pc _ pa _ (by simp[hb])
 ·rw[if_neg (by simp[aw,h1]),if_pos (by simp[aw,h1]),h1,show qB im x u l s= .ok (.i 0) (l.set x.b u) s from by unfold qB;rw[if_pos h1]];exact Be h hF u v pl x.b pn pc _ pa (by rw[a7.len];exact hx.loc (Or.inr h1))
 ·have b4:=hA 1 (by simp[aw,h1])
  match ts,b4,hu,a0 with
  | [ta],_,hu,a0=>
   simp[bk,cJ,bD,Sp.arith,h1]at a0;obtain⟨m,rfl,m1,m2⟩:=((hu ta rfl).sub hW.cls a5 hs.ht (t':=105) (ue (by simpa using a0.1)) (by decide)).int (by decide);rw[if_neg (by simp[aw,h1]),if_pos (by simp[aw,h1]),h1,show qB im x (.i m) l s= .ok (.i 0) l (s.say m)from by unfold qB;simp[h1,V.N]];exact nh h (.i m) v pl 119 x.b pn pc _ pa _ (by decide) (by decide) (by decide) (by decide) (fun X hX=>AG (h.grown hX) ⟨rfl,rfl⟩ (z9 (h.grown hX).wq htab m m1 m2 (by have:=hs.o;omega) v pl x.b pn pc _ pa))
 ·rw[if_neg (by simp[aw,h1]),if_neg (by simp[aw,h1]),h1,show qC im (fun b' l'=>bN im inp f b' (d+1) 0 l' s) d x u v l s= .ok v l s from by unfold qC;rw[if_pos h1]];exact vV h hF u v pl x.b pn pc _ pa
 ·have b0:x.op.toNat=43∨x.op.toNat=45∨x.op.toNat=42∨x.op.toNat=60∨x.op.toNat=61∨x.op.toNat=47:=by omega
  have b5:=hA 2 (by rcases h1 with h1|h1<;>simp[aw,h1]);have b6:arith x.op.toNat=true:=by rcases h1 with h1|h1<;>simp[Sp.arith,h1]
  match ts,b5,hu,hv,a0 with
  | [ta,tc],_,hu,hv,a0=>
   have hf:cr im.classes [ta,tc] [105,105]=true:=by
    rcases h1 with h1|h1<;>simp[bk,cJ,Sp.arith,h1]at a0<;>simpa using a0.1
   obtain⟨q1,q2⟩:=xK hf;obtain⟨a,rfl,a1,a2⟩:=((hu ta rfl).sub hW.cls a5 hs.ht (t':=105) q1 (by decide)).int (by decide);obtain⟨c,rfl,b1,b2⟩:=((hv tc rfl).sub hW.cls a5 hs.ht (t':=105) q2 (by decide)).int (by decide);rw[if_neg (by rcases h1 with h1|h1<;>simp[aw,h1]),if_neg (by rcases h1 with h1|h1<;>simp[aw,h1]),show qC im (fun b' l'=>bN im inp f b' (d+1) 0 l' s) d x (.i a) (.i c) l s=fe x.op.toNat (V.i a).N (V.i c).N l s from by unfold qC;rw[if_neg (by omega),if_neg (by omega),if_neg (by omega),if_neg (by omega)]];exact nh h (.i a) (.i c) pl x.op.toNat x.b pn pc _ pa _ (by omega) (by omega) (by omega) (by omega) (fun X hX=>AG (h.grown hX) (qc _ _ _ _ _) (Bc (h.grown hX).wq x.op.toNat b0 a c a1 a2 b1 b2 pl x.b pn pc _ pa))
end
def imE:Img:=⟨[],[],[⟨-1,-1,[105],[⟨44,0,0,5⟩,⟨111,0,0,6⟩,⟨60,0,0,7⟩,⟨108,0,0,8⟩,⟨53,0,5,10⟩,⟨44,0,0,11⟩,⟨119,0,0,12⟩,⟨108,0,0,13⟩,⟨115,0,0,15⟩,⟨43,0,0,17⟩,⟨108,0,0,18⟩,⟨49,0,1,20⟩,⟨108,0,0,21⟩]⟩]⟩
def wA:ByteArray:=⟨#[59,59,59,105,58,44,111,60,108,48,53,44,119,108,48,115,48,43,108,48,49,108,48,46]⟩
theorem lE:ep wA= .ok imE:=by kernel_rfl
theorem scE:eC wA=(0,0):=by decide+kernel
theorem tyE:imE.bodies.findIdx? (fun b=> !dN imE b)=none:=by decide+kernel
theorem evE:lr imE ⟨#[]⟩ 200=([48,32,49,32,50,32,51,32,52,32],5,0):=by decide+kernel
theorem Bz: ∀b∈imE.bodies,∀x∈b.code,AP x.op=true:=by
 intro b hb x hx;have hb:b=_:=List.mem_singleton.1 hb;subst hb;revert x
 decide
theorem Bj (w:World) (htab:eP w):
  Calls Tryz.prog 34 #[.string wA,.string ⟨#[]⟩,.int .i64 200] w fun en w'=>en= .returned (.tuple #[.string ⟨#[48,32,49,32,50,32,51,32,52,32]⟩,.int .i64 5,.int .i64 0])∧But (fun _=>False) w w':=by
 have key:Calls Tryz.prog 60 #[.string wA] w fun en w'=>But (fun _=>False) w w'∧ ∃g,en= .returned (.agg #[.int .i64 0,.int .i64 0,.pointer (some ⟨g,0,none⟩),.slice none 0 0])∧eZ w' g imE:=by
  refine(gJ wA w (by unfold maxLen;decide)).mono ?_;rintro en w' ⟨hB,hE⟩;refine⟨hB,?_⟩;unfold jH at hE;rw[lE]at hE;simp only at hE;rw[tyE]at hE;obtain⟨g,h1,h2,h3⟩:=hE;exact⟨g,h1,h3⟩
 have HK:=hid key;have hR:dF imE:=rD (by decide) lE (by rw[scE]);generalize wA=src at*;clear key
 go_in
 go_wp2_with fail;refine HK.out.mono ?_;rintro en w1 ⟨a0,g,rfl,a1⟩
 have HE:Hid (∀ob,Calls Tryz.prog 61 #[.pointer (some ⟨g,0,none⟩),.string ⟨#[]⟩,.int .i64 200] (w1.alloc ob) fun en w'=>en= .returned (.tuple #[.string ⟨#[48,32,49,32,50,32,51,32,52,32]⟩,.int .i64 5,.int .i64 0])∧But (fun _=>False) (w1.alloc ob) w'):=fun ob=>by
  have hA:But (fun _=>False) w1 (w1.alloc ob):=But.alloc _ _ _;have:=yu (w1.alloc ob) g ⟨#[]⟩ 200 (by omega) imE (a1.but hA) hR (fun be bw f _=>zW ((htab.but a0).but hA) hR Bz);rw[evE]at this;exact this
 clear a1 HK;go_wp2_with fail;refine(HE.out _).mono ?_;rintro en w2 ⟨rfl,a2⟩;clear HE;go_wp2_with fail;refine(sd 0 (Or.inl rfl) w2).mono ?_;rintro en w3 ⟨rfl,rfl⟩;go_wp2_with fail;exact bodyPost_ret (v:= .tuple #[.string ⟨#[48,32,49,32,50,32,51,32,52,32]⟩,.int .i64 5,.int .i64 0]) (by simp[results,Tryz.results34,go_sem]) rfl ⟨rfl,(a0.trans (But.alloc _ _ _)).trans a2⟩
end
section
open Go Go.RowKit Sp
theorem wC (w:World) (ht:eP w):Calls Tryz.prog 17 #[] w fun en w'=>en= .returned (.bool true)∧But (fun _=>False) w w':=by
 have m: ∀n:Nat,n≤100→n≤maxLen:=fun n h=>by unfold maxLen;omega
 have h1:=fun w (_:eP w)=>m6 ⟨#[59,59,59,58,107,49,107,50,43,116,46]⟩ w (m _ (by decide))
 have h2:=fun w (_:eP w)=>jZ ⟨#[59,59,59,58,107,49,107,50,43,116,46]⟩ w (m _ (by decide))
 have h3:=By;have h4:=fun w (_:eP w)=>vE ⟨#[45,46,65,46,65,46,59,59,59,65,58,115,48,105,49,110,66,110,67,46]⟩ w (m _ (by decide))
 have h5:=Bj;have h6:=fun w (h:eP w)=>qi ⟨#[59,59,59,58,43,51,52,46]⟩ w (m _ (by decide)) h
 rw[yK]at h1;rw[yL]at h2;rw[zU]at h4;rw[zV]at h6;refine yJ h1 h2 h3 h4 h5 (fun w h=>(h6 w h).mono ?_) w ht;rintro en w' ⟨⟨r,e,hr⟩,hB⟩;exact⟨⟨r,e,hr rfl⟩,hB⟩
end
section
open Go Go.RowKit Sp
attribute [local go_sem ↓] Go.wp_at_zero Go.wp_at_succ
def CA (w:World) (ao:Option Addr) (n:Nat):Prop:=
 n≤maxLen∧(0<n→ ∃b o,ao=some ⟨b,o,none⟩∧b<w.heap.size∧ ∀k,k<n→ ∃s u:ByteArray,w.cell? ⟨b,o+k*7+4,none⟩=some (.string s)∧w.cell? ⟨b,o+k*7+6,none⟩=some (.string u)∧s.size≤maxLen∧u.size≤1048576)
theorem Cj (ao:Option Addr) (n cap:Nat) (w:World) (hw:eP w) (hO:CA w ao n):
  Calls Tryz.prog 5 #[.slice ao n cap] w fun en w'=>en= .returned (.bool true)∧But (fun _=>False) w w':=by
 have HA:=hid (fun w1 (hB:But (fun _=>False) w w1)=>wC w1 (hw.but hB));clear hw
 go_in
 go_wp2_with fail;have hn:n≤9223372036854775807:=hO.1
 go_loopg [3] n (fun mm is wr=> ∃(k:Nat),is= .int .i64 k∧k≤n∧k+mm≤n∧n≤k+mm∧But (fun _=>False) w wr)
 case atStart=>exact⟨0,rfl,by omega,by omega,by omega,But.refl _ _⟩
 case round=>
  obtain⟨k,rfl,b2,b1,b3,a0⟩:=hrel;clear b1
  by_cases a1:k<n∧(k:Int)<1152921504606846976
  ·obtain⟨a1,b5⟩:=a1;have b4:(k:Int)<(n:Int):=by omega
   obtain⟨b,o,rfl,hb,hA⟩:=hO.2 (by omega);obtain⟨s,u,q4,q6,hs,hu⟩:=hA k a1;obtain⟨⟨U⟩⟩:=u;have a5:=hid (fun w1=>Ci s U w1 hs hu);have a4:b<wr.heap.size:=Nat.lt_of_lt_of_le hb a0.size;rw[←a0.cell (p:=⟨b,_,none⟩) hb (fun h=>h)]at q4 q6;clear hA hu;have b6:IntKind.i64.wrap ((k:Int)+1)=(k:Int)+1:=(IntWalk.i64_left _).trans (IntWalk.wrap64_in _ ⟨by omega,by omega⟩);have a3:But (fun _=>False) wr wr.drew:=But.drew _ _;go_wp2_with fail;refine aB (But (fun _=>False) wr) 11 (by kernel_rfl) ?_
   iterate 10 (refine dt (v:=?_) rfl (by kernel_rfl) (fun _ _ _ h=>h) rfl a3 ?_ ?_;rotate_left;(focus (intro wS h;have q0:=(h.kc q4 a4);have q1:=(h.kc q6 a4);clear h;go_simp;try rfl));dsimp only[Act.put];try simp only[aK])
   refine ag rfl (by kernel_rfl) ?_;intro KS hKS;go_simp;refine(a5.out _).mono ?_;rintro en w9 ⟨rfl,b0⟩;have a2:=a3.trans b0;refine hKS.out _ _ (fun _=>a2) ?_;clear hKS KS;refine ag rfl (by kernel_rfl) ?_;intro KS hKS;go_simp;refine hKS.out _ _ nofun ?_;clear hKS KS;refine aF rfl (by kernel_rfl) ?_;have a8:=a0.trans a2;clear q4 q6;go_wp2_with fail
   go_roundg (n-(k+1))
   case measure=>omega
   case rel=>exact⟨k+1,by simp,by omega,by omega,by omega,a8⟩
  ·have h2: ¬((k:Int)<(n:Int))∨((k:Int)<(n:Int)∧ ¬(k:Int)<1152921504606846976):=by omega
   rcases h2 with h2| ⟨h1,h2⟩
   all_goals
    go_wp2_with fail;refine(HA.out _ a0).mono ?_;rintro en w1 ⟨rfl,a6⟩;have a7:=a0.trans a6;go_wp2_with fail;exact cB (.bool true) Tryz.results5 rfl rfl ⟨rfl,a7⟩
end
section
open Go Go.RowKit Sp Go.ChangeShapes Go.WideShapes Go.ChangeAt
theorem qj {W:World} (h:laidMet Tryz.prog Rows.leastUptoRow.laid W):eP W:=
 Lib.tabIs_of_head (rest:=[]) (g:=0) (t:=329) (e:=323) (n:=20) (by kernel_rfl) (by kernel_rfl) (by kernel_rfl) (by kernel_rfl) (by kernel_rfl) (by kernel_rfl) h.tail.tail
theorem Cq {H:Type} {d:DataW H} {l:List (DataW H)} (h:d∈l):Rows.uptoBulk d≤Rows.uptoBulkAll l:=by
 induction l with
 |nil=>cases h
 |cons x r ih=>
  simp only[Rows.uptoBulkAll];rcases List.mem_cons.1 h with e|e
  ·subst e;omega
  ·have:=ih e;omega
theorem Ck {H:Type} {d:DataW H} (h:Rows.uptoSmall H ([d]++ [])=true):Rows.uptoBulk d≤1048576:=by
 have h:=of_decide_eq_true h;simp only[List.append_nil,Rows.uptoBulkAll]at h;omega
section
variable {H:Type} {enc:TypeId×Value→H} {W:World}
theorem B3 {v:Value} {d:DataW H} {ps:List MemPlace} (h:DataW.Trod enc Tryz.prog W 0 (fun _=>true) true 22 v d ps) (hv:v.cells.toList=[v]) (hsm:Rows.uptoBulk d≤1048576):
  ∃ao n cap,v= .slice ao n cap∧CA W ao n:=by
 obtain⟨fuel,h⟩:=h;rcases Deep.open_slice Tryz.underlying22 h with⟨h0,_⟩ | ⟨a,len,cap,m,n,D,Pl,h0,hb,hl,hm,a5,hD,hx⟩
 ·rw[hv]at h0;refine⟨none,0,0,by simpa using h0,by unfold maxLen;omega,fun h=>absurd h (by omega)⟩
 ·rw[hv]at h0;refine⟨some a,len,cap,by simpa using h0,by omega,fun hp=> ?_⟩;have a8:len≤m:=by rw[a5];split<;>omega
  obtain⟨f0,f1,f2,f3,f4,f5,f6,hu,⟨t0,o0⟩,⟨t1,o1⟩,⟨t2,o2⟩,⟨t3,o3⟩,⟨t4,o4⟩,⟨t5,o5⟩,⟨t6,o6⟩⟩:=wL
  have a4: ∀k,k<len→Rows.uptoBulk (D k)≤1048576:=fun k hk=>by
   obtain rfl:=congrArg Prod.fst hD;simp only[Rows.uptoBulk]at hsm;have:=Cq (List.mem_map_of_mem (f:=D) (List.mem_range.2 hk));omega
  have each: ∀k,k<len→ ∃(x:Value) (s u:ByteArray),W.cell? (a.add (k*7))=some x∧W.cell? (a.add (k*7+4))=some (.string s)∧W.cell? (a.add (k*7+6))=some (.string u)∧s.size≤maxLen∧u.size≤1048576:=by
   intro k hk;obtain⟨cs',h1,h2⟩:=hx k (by omega);have a3:=a4 k hk;rw[yU]at h1;obtain⟨_,a2,a0⟩:=World.cells?_some h1;obtain⟨xs,k',_,a7,_,a6,hf⟩:=DataW.trod_struct hu h2;have g4:=hf 4 f4 rfl;have g6:=hf 6 f6 rfl;rw[t4,o4,sI]at g4;rw[t6,o6,sI]at g6;rw[show D k=_ from congrArg Prod.fst a7]at a3
   match cs',a2 with
   | [v0,v1,v2,v3,v4,v5,v6],_=>
   match xs,a6 with
   | [y0,y1,y2,y3,y4,y5,y6],_=>
   obtain⟨i4,e4,_,l4⟩:=DataW.trod_string Tryz.underlying9 g4;obtain⟨i6,e6,z6,_⟩:=DataW.trod_string Tryz.underlying9 g6;simp at e4 e6;subst e4 e6;have c0:=a0 0 (by omega);have c4:=a0 4 (by omega);have c6:=a0 6 (by omega);rw[Deep.add_add]at c0 c4 c6;refine⟨v0,i4,i6,c0,c4,c6,l4,?_⟩;subst z6;simp only[List.map_cons,List.map_nil,Rows.uptoBulk,Rows.uptoBulkAll]at a3;have:i6.size=i6.data.toList.length:=rfl;omega
  obtain⟨b,off,spot⟩:=a;obtain⟨x,_,_,c0,_⟩:=each 0 hp;have c1:W.cell? ⟨b,off,spot⟩=some x:=c0;have a1:spot=none:=World.cell?_spot c1;subst a1;refine⟨b,off,rfl,yV c1,fun k hk=> ?_⟩;obtain⟨_,s,u,_,c4,c6,h⟩:=each k hk;simp only[WideShapes.add_plain]at c4 c6;exact⟨s,u,by rw[Nat.add_assoc];exact c4,by rw[Nat.add_assoc];exact c6,h⟩
end
end
end Go.Proofs.YtpfkkmacakjmbaaGreatDoor
