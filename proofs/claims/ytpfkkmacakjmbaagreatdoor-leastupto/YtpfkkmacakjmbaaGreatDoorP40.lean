import Derived.Test.YtpfkkmacakjmbaaGreatDoorP39
set_option maxRecDepth 100000
set_option maxHeartbeats 6400000
set_option linter.unusedSimpArgs false
set_option linter.unusedVariables false
namespace Go.Proofs.YtpfkkmacakjmbaaGreatDoor
section
open Go Go.RowKit Sp
attribute [local go_sem ↓] Go.wp_at_zero Go.wp_at_succ
def yz (J:Fm→List Fm→Ev→Nat→Prop) (w0:World) (im:Img) (T:eJ) (mb tx:Nat) (tv:Value) (bw cells:Nat) (inp:ByteArray):Prop:=
 ∀(w:World) (r:Fr) (rs:List Fr) (f:Fm) (fs:List Fm) (s:Ev) (vo vb:Value) (gs:List Nat) (fv:List Value) (cn:Int) (sn:Nat→Int) (ans:Int) (n:Nat),McQ w0 w im T mb tx tv bw cells ans inp (r::rs) (f::fs) s vo vb gs fv cn sn→J f fs s (n+1)→cn≤100000→
  Calls Tryz.prog 88 #[.pointer (some ⟨mb,0,none⟩)] w (fun en w'=> ∃e,en= .returned (.int .i64 e)∧um w0 im T mb tx tv bw cells ans inp cn (jE im inp T cells ⟨f::fs,s⟩) e w')∧
  match jE im inp T cells ⟨f::fs,s⟩with
  | .go m=> ∃f' r',m.fr=f'::r'∧J f' r' m.ev n
  | .bad e o=>6≤e∧e≤10∧o=s.out
  | .fin v o=>(∃k,v= .i k∧ -2147483648≤k∧k<2147483648)∧o=s.out
def AN (J:Fm→List Fm→Ev→Nat→Prop) (w0:World) (im:Img) (T:eJ) (mb tx:Nat) (tv:Value) (bw cells:Nat) (inp:ByteArray) (RV:List UInt8×Int×Nat) (n k:Nat) (e:Int) (w:World):Prop:=
 (e=0∧ ∃r rs f fs s vo vb gs fv,∃cn:Int,∃sn ans,cn≤k∧McQ w0 w im T mb tx tv bw cells ans inp (r::rs) (f::fs) s vo vb gs fv cn sn∧J f fs s n∧qD im inp T cells n ⟨f::fs,s⟩=RV)∨
 (∃m rs fs s vo vb gs fv cn sn ans,6≤m∧m≤10∧e=bI m∧McQ w0 w im T mb tx tv bw cells ans inp rs fs s vo vb gs fv cn sn∧RV=(s.out,0,m))∨
 (e=0∧ ∃v s vo vb gs fv cn sn,McQ w0 w im T mb tx tv bw cells v inp [] [] s vo vb gs fv cn sn∧ -2147483648≤v∧v<2147483648∧RV=(s.out,v,0))
section
variable {J:Fm→List Fm→Ev→Nat→Prop} {w0 w:World} {im:Img} {T:eJ} {mb tx:Nat} {tv:Value} {bw cells:Nat} {inp:ByteArray} {RV:List UInt8×Int×Nat}
theorem yA {r:Fr} {rs:List Fr} {f:Fm} {fs:List Fm} {s:Ev} {vo vb:Value} {gs:List Nat} {fv:List Value} {cn:Int} {sn:Nat→Int} {ans:Int} {n k:Nat} (hS:yz J w0 im T mb tx tv bw cells inp)
  (hk:k≤90000) (hcn:cn≤k) (hM:McQ w0 w im T mb tx tv bw cells ans inp (r::rs) (f::fs) s vo vb gs fv cn sn) (hm:J f fs s (n+1)) (hR:qD im inp T cells (n+1) ⟨f::fs,s⟩=RV):
  Calls Tryz.prog 88 #[.pointer (some ⟨mb,0,none⟩)] w (fun en w'=> ∃e,en= .returned (.int .i64 e)∧AN J w0 im T mb tx tv bw cells inp RV n (k+1) e w'):=by
 obtain⟨hC,hO⟩:=hS _ _ _ _ _ _ _ _ _ _ _ _ _ _ hM hm (by omega);refine hC.mono ?_;rintro en w1 ⟨e,rfl,hQ⟩;refine⟨e,rfl,?_⟩;unfold qD at hR
 cases hsr:jE im inp T cells ⟨f::fs,s⟩with
 |go m=>
  rw[hsr]at hQ hO hR;obtain⟨rfl,rs',vo',vb',gs',fv',cn',sn',hc,a0⟩:=hQ;obtain⟨f',r',he,a1⟩:=hO;have em:m=⟨f'::r',m.ev⟩:=by cases m;simp only at he;subst he;rfl
  rw[he]at a0
  match rs',a0 with
  | [],a0=>exact a0.fr.elim
  |q::rs',a0=>exact Or.inl ⟨rfl,q,rs',f',r',m.ev,vo',vb',gs',fv',cn',sn',ans,by omega,a0,a1,by rw[←em];exact hR⟩
 |bad m o=>
  rw[hsr]at hQ hO hR;obtain⟨rfl,rs',fs',s',vo',vb',gs',fv',cn',sn',ho,a0⟩:=hQ;exact Or.inr (Or.inl ⟨m,rs',fs',s',vo',vb',gs',fv',cn',sn',ans,hO.1,hO.2.1,rfl,a0,by rw[ho];exact hR.symm⟩)
 |fin v o=>
  rw[hsr]at hQ hO hR;obtain⟨rfl,s',vo',vb',gs',fv',cn',sn',ho,a0⟩:=hQ;obtain⟨⟨j,rfl,j1,j2⟩,_⟩:=hO;exact Or.inr (Or.inr ⟨rfl,j,s',vo',vb',gs',fv',cn',sn',a0,j1,j2,by rw[ho];exact hR.symm⟩)
end
theorem wi {J:Fm→List Fm→Ev→Nat→Prop} {w:World} {im:Img} {T:eJ} {tx:Nat} {tv:Value} {cells fuel base:Nat} {inp:ByteArray} {L:List (Nat×List St)} (hT:dE w tx im) (hwf:WfI im) (hTl:T.length=im.bodies.length) {bs:List Bod} {m:Bod} (hbs:im.bodies=bs++ [m]) (hJ:J ⟨bs.length,0,[],bP m []⟩ [] ⟨[],0,0,[]⟩ fuel) (hXT:fi w base tv L) (hLT:L.map (·.2)=T) {nb:Nat} (hnb:nb=im.bodies.length) {w2:World} (hw2:w2=(w.alloc (.cells #[.pointer (some ⟨tx,0,none⟩),.string inp,.int .i64 0,.slice none 0 0,.slice none 0 0,.int .i64 0] 211)).alloc (.cells #[.pointer (some ⟨tx,0,none⟩),tv,.pointer (some ⟨w.heap.size,0,none⟩),.int .i64 cells,.pointer none,.int .i32 0] 157)):
  Calls Tryz.prog 87 #[.pointer (some ⟨w.heap.size+1,0,none⟩),.int .i64 ((nb:Int)-1)] w2 (fun en w'=>en= .returned (.tuple #[])∧AN J w im T (w.heap.size+1) tx tv w.heap.size cells inp (sH im inp T cells fuel) fuel 0 0 w'):=by
 have a0:im.bodies.length=bs.length+1:=by rw[hbs];simp
 have hq:im.bodies[bs.length]?=some m:=by rw[hbs];simp
 have a3:L.length=im.bodies.length:=by rw[←hTl,←hLT,List.length_map]
 obtain⟨p,hp⟩: ∃p,L[bs.length]?=some p:=⟨_,List.getElem?_eq_getElem (by omega)⟩;have a1:T[bs.length]?=some p.2:=by rw[←hLT,List.getElem?_map,hp];rfl
 have hB:But (fun _=>False) w w2:=by rw[hw2];exact(But.alloc _ _ _).trans (But.alloc _ _ _)
 have hW:XwC w2 w.heap.size tx inp 0 (.slice none 0 0) (.slice none 0 0) 0:=by
  rw[hw2];exact((But.alloc (fun _=>False) _ _).block _ (by simp) nF).trans (heap_alloc_new w _)
 have hM:MbB w2 (w.heap.size+1) tx tv w.heap.size cells none 0:=by
  rw[hw2];exact CB (by simp) _
 have e:((nb:Int)-1)=((bs.length:Nat):Int):=by omega
 rw[e];have a2:=hwf.bod m (List.mem_of_getElem? hq);refine(wg w w2 (w.heap.size+1) tx w.heap.size cells 0 base tv 0 im L bs.length m p none (Or.inl ⟨rfl,rfl⟩) (by omega) hM hB hT hXT hq hp ?_ (by have:=hwf.nb;omega)).mono ?_
 ·exact a2.loc.1
 ·rintro en w' ⟨rfl,fb,bl,lv,vl,vi,g⟩;refine⟨rfl,Or.inl ⟨rfl,_,_,_,_,_,_,_,_,_,0,_,_,by omega,wh hB hW (Nat.le_refl _) (by omega) hM.lt (by omega) g hq a1,hJ,?_⟩⟩;unfold sH;rw[a0];simp[hq]
def Bv (J:Fm→List Fm→Ev→Nat→Prop) (w0:World) (im:Img) (T:eJ) (mb tx:Nat) (tv:Value) (bw cells:Nat) (inp:ByteArray) (RV:List UInt8×Int×Nat) (fuel mm:Nat) (vf vs:Value) (w:World):Prop:=
 ∃(k:Nat) (e:Int),vf= .int .i64 e∧vs= .int .i64 k∧k+mm=fuel∧AN J w0 im T mb tx tv bw cells inp RV mm k e w
theorem wj {m:Nat} (h:6≤m) (h':m≤10):bI m≠0∧2≤bI m∧bI m≤6:=by
 have:m=6∨m=7∨m=8∨m=9∨m=10:=by omega
 rcases this with rfl|rfl|rfl|rfl|rfl<;>decide
section
variable {J:Fm→List Fm→Ev→Nat→Prop} {w:World} {im:Img} {T:eJ} {tx base:Nat} {tv:Value} {cells fuel:Nat} {inp:ByteArray} {L:List (Nat×List St)}
theorem zN (hT:dE w tx im) (hwf:WfI im) (hTl:T.length=im.bodies.length) {bs:List Bod} {m:Bod} (hbs:im.bodies=bs++ [m]) (hJ:J ⟨bs.length,0,[],bP m []⟩ [] ⟨[],0,0,[]⟩ fuel) (hSt: ∀mb bw,yz J w im T mb tx tv bw cells inp) (hXT:fi w base tv L) (hLT:L.map (·.2)=T) (hfu:fuel≤4000):
  Calls Tryz.prog 58 #[.pointer (some ⟨tx,0,none⟩),tv,.string inp,.int .i64 cells,.int .i64 fuel] w (fun en w'=>en= .returned (.tuple #[.string ⟨(sH im inp T cells fuel).1.toArray⟩,.int .i64 (sH im inp T cells fuel).2.1,.int .i64 (bI (sH im inp T cells fuel).2.2)])∧But (fun _=>False) w w'):=by
 obtain⟨ax,capx,rfl⟩:=aq hXT.1;have HB:=hid (fun(nb:Nat) (a3:nb=im.bodies.length) w2 hw2=>wi (inp:=inp) (cells:=cells) (w2:=w2) hT hwf hTl hbs hJ hXT hLT a3 hw2);have HS:=hid (fun w' mb bw RV r rs f fs s vo vb gs fv cn sn ans n k=> @yA J w w' im T mb tx (.slice ax L.length capx) bw cells inp RV r rs f fs s vo vb gs fv cn sn ans n k (hSt mb bw));obtain⟨v2,t2,c7,lb,hO,hm,hf⟩:=hT.bod;have a0:lb.length=im.bodies.length:=by have:=congrArg List.length hm;simpa using this
 have a1:=hid a0;clear a0;have a4:lb.length≤7:=by rw[a1.out];exact hwf.nb
 obtain⟨ao,capo,rfl⟩:=aq hO;have a6:=hid (fun Y=>vU tx inp Y);generalize a7:sH im inp T cells fuel=RV at*;have d6:=hid a7;clear a7 hO hm hf hT hwf hTl hbs hJ hSt hXT hLT;generalize L.length=nL at*;generalize a3:lb.length=nb at*;clear a3
 go_in
 go_wp2_with fail;refine(a6.out _).mono ?_;rintro en w1 ⟨rfl,rfl⟩;go_wp2_with fail;refine(HB.out nb a1.out _ rfl).mono ?_;rintro en w3 ⟨rfl,hJ⟩;have HJ:=hid hJ;clear hJ HB a6 t2 a1 a4 c7;generalize b4:w.heap.size=bw at*;generalize bw+1=mb at*;clear b4;go_wp2_with fail
 go_loopg [14,15] fuel (fun mm vf vs wr=>Bv J w im T mb tx (.slice ax nL capx) bw cells inp RV fuel mm vf vs wr)
 case atStart=>exact⟨0,0,rfl,rfl,by omega,HJ.out⟩
 case round=>
  clear HJ;obtain⟨k,e,rfl,rfl,hk,hJ⟩:=hrel;rcases hJ with⟨rfl,r,rs,f,fs,s,vo,vb,gs,fv,cn,sn,ans,b5,hM,hm,hR⟩ | ⟨m,rs,fs,s,vo,vb,gs,fv,cn,sn,ans,h6,b3,rfl,hM,hR⟩ | ⟨rfl,v,s,vo,vb,gs,fv,cn,sn,hM,v1,v2,hR⟩
  all_goals
   have c2:=hM.mc.c2;have c4:=hM.mc.c4;have c5:=hM.mc.c5;have e0:=hM.mc.lt;have HM:=hid hM;have HO:=hid (rY hM.wd.wd hM.wd.out);have HR:=hid hR;clear hM hR
  ·simp only[nr,qd,Option.map_some]at c4;rcases Nat.eq_zero_or_pos gk with h0|h0
   ·have a2: ¬(k:Int)<(fuel:Int):=by omega
    rw[h0]at HR;clear hm hk h0;go_wp2_with fail;refine HO.out.mono ?_;rintro en w4 ⟨rfl,rfl⟩;go_wp2_with fail;exact bodyPost_ret (v:= .tuple #[.string ⟨s.out.toArray⟩,.int .i64 0,.int .i64 1]) (by simp[results,Tryz.results58,go_sem]) rfl ⟨by rw[←HR.out];rfl,HM.out.wd.old⟩
   ·obtain⟨n,hn⟩: ∃n,gk=n+1:=⟨gk-1,by omega⟩;have a5:=hid hn;rw[hn]at HR hm;clear hn;have a2:(k:Int)<(fuel:Int):=by omega
    have b1:=hid hm;have b6:k≤90000:=by omega
    clear hm;go_wp2_with fail;refine(HS.out _ _ _ _ _ _ _ _ _ _ _ _ _ _ _ _ _ _ b6 b5 HM.out b1.out HR.out).mono ?_;rintro en w4 ⟨e,rfl,hJ⟩;have HJ:=hid hJ;clear hJ;go_wp2_with fail
    go_roundg n
    case measure=>have:=a5.out;omega
    case rel=>exact⟨k+1,e,rfl,by simp,by have:=a5.out;omega,HJ.out⟩
  ·obtain⟨e1,e2,e3⟩:=wj h6 b3;generalize hE:bI m=E at*;have HE:=hid hE;have b0:(E==0)=false:=by simp[e1]
   clear hE hk;obtain⟨cu,a8⟩: ∃cu,qd (nr rs)= .pointer cu:=⟨_,rfl⟩;rw[a8]at c4;clear a8 e1
   by_cases a2:(k:Int)<(fuel:Int)<;>rcases cu with _|cu
   all_goals
    go_wp2_with fail;refine HO.out.mono ?_;rintro en w4 ⟨rfl,rfl⟩;go_wp2_with fail;exact bodyPost_ret (v:= .tuple #[.string ⟨s.out.toArray⟩,.int .i64 0,.int .i64 E]) (by simp[results,Tryz.results58,go_sem]) rfl ⟨by rw[HR.out,←HE.out],HM.out.wd.old⟩
  ·simp only[nr,qd,Option.map_none]at c4;have b2:=hid (fun n=>rY (HM.out.new (But.drewN _ wr n)).wd.wd (HM.out.new (But.drewN _ wr n)).wd.out);clear hk HO
   by_cases a2:(k:Int)<(fuel:Int)
   all_goals
    go_wp2_with fail
    go_quiet (exact Calls.quiet_of_same (b2.out _))
    go_wp2_with fail;exact bodyPost_ret (v:= .tuple #[.string ⟨s.out.toArray⟩,.int .i64 v,.int .i64 0]) (by simp[results,Tryz.results58,go_sem]) rfl ⟨by rw[HR.out];rfl,HM.out.wd.old.trans (But.drewN _ _ _)⟩
end
end
end Go.Proofs.YtpfkkmacakjmbaaGreatDoor
