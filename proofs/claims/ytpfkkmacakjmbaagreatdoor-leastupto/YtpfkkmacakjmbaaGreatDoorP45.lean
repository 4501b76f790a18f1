import Derived.Test.YtpfkkmacakjmbaaGreatDoorP44
import Derived.Test.YtpfkkmacakjmbaaGreatDoorP32
import Derived.Test.YtpfkkmacakjmbaaGreatDoorP22
set_option maxRecDepth 100000
set_option maxHeartbeats 6400000
set_option linter.unusedSimpArgs false
set_option linter.unusedVariables false
namespace Go.Proofs.YtpfkkmacakjmbaaGreatDoor
section
open Go Go.RowKit Sp
attribute [local go_sem ↓] Go.wp_at_zero Go.wp_at_succ
theorem BX {cs:List Cls} {t:List St} {s l:List UInt8} {z:Int} (h:B5 cs t s l z=true):dS cs t z (s,l):=by
 unfold B5 at h;rcases Bool.or_eq_true _ _▸h with h|h
 ·exact Or.inl (by simpa using h)
 ·obtain⟨s',l',h1,h2,h3⟩:=BV h;exact Or.inr ⟨(s',l'),getD_some.1 h1,h2,h3⟩
theorem Ct {im:Img} {bd:Bod} {t:List St} (hl:t.length=bd.code.length) (h0:BD im.classes [] bd.locals (t.getD 0 none)=true) (hk: ∀k,k<t.length→ ∀X s l,bd.code[k]?=some X→t[k]?=some (some (s,l))→BF im bd t k X s l=true):kU im bd t:=by
 obtain⟨s',l',h1,h2,h3⟩:=BV h0;refine⟨hl,⟨(s',l'),getD_some.1 h1,h2,h3⟩,fun i X s l hX hi=> ?_⟩;have h:=hk i (List.getElem?_eq_some_iff.1 hi).1 X s l hX hi;unfold BF at h
 cases he:df im.classes im.sigs bd X s l with
 |none=>rw[he]at h;cases h
 |some m=>
  obtain⟨a,b⟩:=m;rw[he]at h;dsimp only[BE]at h
  split at h
  ·cases h
  ·rw[Bool.and_eq_true]at h;exact⟨a,b,rfl,BX h.1,BX h.2⟩
def Cy (im:Img) (bd:Bod) (t:List St) (en:Ending):Prop:= ∃q,en= .returned (.bool q)∧(q=true→kU im bd t)
theorem Ch (bi:Nat) (im:Img) (bd:Bod) (ak:Option Addr) (capk b3:Nat) (v:Value) (t:List St) (w:World) (hI:dk w bi im) (hW:WfI im) (hbd:WfB im.classes im.sigs bd) (hc:w.ownsRow 0 144 4 (.slice ak bd.code.length capk) bd.code.length (cz bd.code)) (hok:BW im.classes.length t) (hO:w.ownsRow b3 91 3 v t.length (tdC t)):
  Calls Tryz.prog 30 #[.pointer (some ⟨bi,0,none⟩),.agg #[.int .i64 bd.cls,.int .i64 bd.meth,.string ⟨bd.locals.toArray⟩,.slice ak bd.code.length capk,.slice none 0 0],v] w fun en w'=>Cy im bd t en∧But (fun _=>False) w w':=by
 have f0:=hbd.len;have b5:=hbd.loc;obtain⟨n,hn⟩: ∃n,bd.code.length=n:=⟨_,rfl⟩;obtain⟨av,cv,rfl⟩:=aq hO;have a2:=heap_alloc_new w (.cells #[.int .i64 bd.cls,.int .i64 bd.meth,.string ⟨bd.locals.toArray⟩,.slice ak n capk,.slice none 0 0] 52);have a3:But (fun _=>False) w (w.alloc (.cells #[.int .i64 bd.cls,.int .i64 bd.meth,.string ⟨bd.locals.toArray⟩,.slice ak n capk,.slice none 0 0] 52)):=But.alloc _ _ _
 by_cases htl:t.length=n
 case neg=>
  have f8:((t.length:Int)!=(n:Int))=true:=by rw[bne_iff_ne];omega
  rw[hn];clear hI hW hbd hc hok hO hn htl a2
  go_in
  go_wp2_with fail
  all_goals go_ret
  all_goals exact⟨⟨false,rfl,fun h=>by cases h⟩,a3⟩
 obtain⟨o,h0⟩: ∃o,t[0]?=some o:=⟨_,List.getElem?_eq_getElem (by omega)⟩;have HG:=hid (fun h1 h2=>Ct (im:=im) (htl.trans hn.symm) h1 h2);have f2:t.getD 0 none=o:=by simp[List.getD,h0]
 rw[f2]at HG;have f7: ∀c∈bd.locals,okT im.classes.length c=true:=fun c hcm=>gd (b5.2 c hcm)
 have d6:=hid (fun(wx:World) (h:But (fun _=>False) w wx)=>BL bi im.classes [] bd.locals o wx (hI.but h).cls hW.cls hW.nc (fun c hc=>by simp at hc) f7 (by simp) (by have:=b5.1;omega));have f1:=hid (uO bd ak n capk);have e7:=hid (fun(i:Nat) st lo X (hi:t[i]?=some (some (st,lo))) (hX:bd.code[i]?=some X) (hll:lo.length=bd.locals.length) (wx:World) (h:But (fun _=>False) w wx)=>Cg bi im bd ak capk b3 (.slice av t.length cv) t i st lo X wx (hI.but h) hW hbd (ah hc h (fun _ _ h=>h)) (htl.trans hn.symm) hok (ah hO h (fun _ _ h=>h)) hi hll hX);have g2:=hid (fun(i:Nat) (h:i<n)=>(⟨_,List.getElem?_eq_getElem (show i<bd.code.length by omega)⟩: ∃X,bd.code[i]?=some X))
 rw[hn]at e7 f0⊢;obtain⟨gt,e1,a6,g7,c7⟩:=aD hO (by omega)
 cases e1
 have e8:=hid c7;have g3:=hid htl;rw[htl]at e7 HG⊢;obtain⟨d0,d1,d2,hd⟩: ∃d0 d1 d2,stV o=#[d0,d1,d2]:=by cases o<;>exact⟨_,_,_,rfl⟩
 have q0:w.cell? ⟨gt,0,none⟩=some d0:=c7 _ _ (by rw[show 0=0*3+0 from rfl,dx (q:=0) h0 (by omega),hd];rfl);have q1:w.cell? ⟨gt,1,none⟩=some d1:=c7 _ _ (by rw[show 1=0*3+1 from rfl,dx (q:=1) h0 (by omega),hd];rfl);have q2:w.cell? ⟨gt,2,none⟩=some d2:=c7 _ _ (by rw[show 2=0*3+2 from rfl,dx (q:=2) h0 (by omega),hd];rfl);rw[hd]at d6;have g6:(0:Int)<(n:Int):=by omega
 obtain⟨qb,g0⟩: ∃q,BD im.classes [] bd.locals o=q:=⟨_,rfl⟩;rw[g0]at d6 HG;clear c7 htl hn hI hW hbd hc hok hO h0 f2 f7 b5 hd g0
 go_in
 go_wp2_with fail;revert a2 a3;generalize (w.alloc (.cells #[.int .i64 bd.cls,.int .i64 bd.meth,.string ⟨bd.locals.toArray⟩,.slice ak n capk,.slice none 0 0] 52))=W;intro a2 a3;have b0:=ce0 a2;have b1:=ce1 a2;have b2:=ce2 a2;have e0:=ce3 a2;have b4:=ce4 a2;have a1:=ae a2;have e5:gt<W.heap.size:=Nat.lt_of_lt_of_le a6 a3.size;replace q0:=a3.kc q0 a6;replace q1:=a3.kc q1 a6;replace q2:=a3.kc q2 a6;have a0:But (fun _=>False) W W.drew:=But.drew _ _;refine ck (But (fun _=>False) W) 7 (by kernel_rfl) ?_;have fSA:=hid (fun wS (h:(But (fun _=>False) W) wS)=>(And.intro (h.kc b0 a1) (And.intro (h.kc b1 a1) (And.intro (h.kc b2 a1) (And.intro (h.kc e0 a1) (And.intro (h.kc b4 a1) (And.intro (h.kc q0 e5) (And.intro (h.kc q1 e5) (h.kc q2 e5)))))))))
 refine ay (k:=0) (v:= ?vA0) rfl (by decide) (by kernel_rfl) (fun _ _ _ h=>h) rfl a0 ?yA0 ?rA0
 case yA0=>intro wS h;obtain⟨q0,q1,q2,q3,q4,q5,q6,q7⟩:=fSA.out wS h;clear h;go_simp;try rfl
 dsimp only[Act.put]
 try simp only[aK]
 refine ay (k:=1) (v:= ?vA1) rfl (by decide) (by kernel_rfl) (fun _ _ _ h=>h) rfl a0 ?yA1 ?rA1
 case yA1=>intro wS h;obtain⟨q0,q1,q2,q3,q4,q5,q6,q7⟩:=fSA.out wS h;clear h;go_simp;try rfl
 dsimp only[Act.put]
 try simp only[aK]
 refine ay (k:=3) (v:= ?vA3) rfl (by decide) (by kernel_rfl) (fun _ _ _ h=>h) rfl a0 ?yA3 ?rA3
 case yA3=>intro wS h;obtain⟨q0,q1,q2,q3,q4,q5,q6,q7⟩:=fSA.out wS h;clear h;go_simp;try rfl
 dsimp only[Act.put]
 try simp only[aK]
 refine ay (k:=4) (v:= ?vA4) rfl (by decide) (by kernel_rfl) (fun _ _ _ h=>h) rfl a0 ?yA4 ?rA4
 case yA4=>intro wS h;obtain⟨q0,q1,q2,q3,q4,q5,q6,q7⟩:=fSA.out wS h;clear h;go_simp;try rfl
 dsimp only[Act.put]
 try simp only[aK]
 refine ay (k:=5) (v:= ?vA5) rfl (by decide) (by kernel_rfl) (fun _ _ _ h=>h) rfl a0 ?yA5 ?rA5
 case yA5=>intro wS h;obtain⟨q0,q1,q2,q3,q4,q5,q6,q7⟩:=fSA.out wS h;clear h;go_simp;try rfl
 dsimp only[Act.put]
 try simp only[aK]
 try clear fSA
 refine aA (k:=2) rfl (by decide) (by kernel_rfl) ?_;intro KS hKS;go_simp;refine(f1.out _).mono ?_;rintro en w1 ⟨rfl,f3⟩;have e3:=a0.trans f3;refine hKS.out _ _ (fun _=>e3) ?_;clear hKS KS;refine aA (k:=6) rfl (by decide) (by kernel_rfl) ?_;intro KS hKS;go_simp;refine(d6.out _ (a3.trans e3)).mono ?_;rintro en w2 ⟨rfl,f4⟩;have e4:=e3.trans f4;refine hKS.out _ _ (fun _=>e4) ?_;clear hKS KS;refine aA (k:=7) rfl (by decide) (by kernel_rfl) ?_;intro KS hKS;go_simp;refine hKS.out _ _ nofun ?_;clear hKS KS;refine b7 rfl (by kernel_rfl) ?_;have a7:=a3.trans e4;have f6:=e4.kp a2;clear b0 b1 b2 e0 b4 q0 q1 q2 a2 f1 d6 a0 f3 e3 f4 e4 a3 a1 e5
 cases qb with
 |false=>
  go_wp2_with fail
  all_goals go_ret
  all_goals exact⟨⟨false,rfl,fun h=>by cases h⟩,a7⟩
 |true=>
 replace HG:=hid (HG.out rfl);go_wp2_with fail
 go_loopg [8] n (fun mm is wr=> ∃k:Nat,is= .int .i64 k∧k+mm=n∧Hid (∀j,j<k→ ∀X s l,bd.code[j]?=some X→t[j]?=some (some (s,l))→BF im bd t j X s l=true)∧But (fun _=>False) w wr∧wr.heap[w.heap.size]?=some (.cells #[.int .i64 bd.cls,.int .i64 bd.meth,.string ⟨bd.locals.toArray⟩,.slice ak n capk,.slice none 0 0] 52))
 case atStart=>exact⟨0,rfl,by omega,fun j hj=>absurd hj (by omega),a7,f6⟩
 case round=>
  clear a7 f6;obtain⟨k,rfl,hk,HD,a5,b6⟩:=hrel;have a8:gt<wr.heap.size:=Nat.lt_of_lt_of_le a6 a5.size
  by_cases hlt:k<n
  ·have g5:(k:Int)<(n:Int):=by omega
   obtain⟨o,ho⟩: ∃o,t[k]?=some o:=⟨_,List.getElem?_eq_getElem (by rw[g3.out];exact hlt)⟩
   cases o with
   |none=>
    have c0:wr.cell? ⟨gt,k*3,none⟩=some (.bool false):=a5.kc (e8.out _ _ (dx (q:=0) ho (by omega))) a6
    have e6:Hid (∀j,j<k+1→ ∀X s l,bd.code[j]?=some X→t[j]?=some (some (s,l))→BF im bd t j X s l=true):=fun j hj X s l h1 h2=>by
     rcases Nat.lt_or_eq_of_le (Nat.le_of_lt_succ hj)with h|rfl
     ·exact HD.out j h X s l h1 h2
     ·rw[ho]at h2;cases h2
    clear ho HD;go_wp2_with fail
    go_roundg (n-(k+1))
    case measure=>omega
    case rel=>exact⟨k+1,by simp,by omega,e6,a5,b6⟩
   |some p=>
    obtain⟨st,lo⟩:=p;obtain⟨X,hX⟩:=g2.out k hlt;have c0:wr.cell? ⟨gt,k*3,none⟩=some (.bool true):=a5.kc (e8.out _ _ (dx (q:=0) ho (by omega))) a6;have c2:wr.cell? ⟨gt,k*3+2,none⟩=some (.string ⟨lo.toArray⟩):=a5.kc (e8.out _ _ (dx (q:=2) ho (by omega))) a6;have b2:=ce2 b6;have a1:=ae b6;have a0:But (fun _=>False) wr wr.drew:=But.drew _ _
    by_cases hll:lo.length=bd.locals.length
    case neg=>
     have f8:((lo.length:Int)!=(bd.locals.length:Int))=true:=by rw[bne_iff_ne];omega
     clear ho hX hll HD;go_wp2_with fail;refine aB (But (fun _=>False) wr) 9 (by kernel_rfl) ?_
     iterate 9 (refine dt (v:=?_) rfl (by kernel_rfl) (fun _ _ _ h=>h) rfl a0 ?_ ?_;rotate_left;(focus (intro wS h;have q0:=(h.kc c2 a8);have q1:=(h.kc b2 a1);clear h;go_simp;try rfl));dsimp only[Act.put];try simp only[aK])
     refine ag rfl (by kernel_rfl) ?_;intro KS hKS;go_simp;refine hKS.out _ _ nofun ?_;clear hKS KS;refine aF rfl (by kernel_rfl) ?_;go_wp2_with fail
     all_goals go_ret
     all_goals exact⟨⟨false,rfl,fun h=>by cases h⟩,a5.trans a0⟩
    have f8:((lo.length:Int)!=(bd.locals.length:Int))=false:=by rw[hll];simp
    have HK:=hid (fun wx h=>e7.out k st lo X ho hX hll wx h)
    have e6:Hid (BF im bd t k X st lo=true→ ∀j,j<k+1→ ∀X s l,bd.code[j]?=some X→t[j]?=some (some (s,l))→BF im bd t j X s l=true):=fun hq j hj X s l h1 h2=>by
     rcases Nat.lt_or_eq_of_le (Nat.le_of_lt_succ hj)with h|rfl
     ·exact HD.out j h X s l h1 h2
     ·rw[ho]at h2;rw[hX]at h1;cases h1;cases h2;exact hq
    generalize BF im bd t k X st lo=qk at*;clear ho hll hX HD;go_wp2_with fail;refine aB (But (fun _=>False) wr) 9 (by kernel_rfl) ?_
    iterate 9 (refine dt (v:=?_) rfl (by kernel_rfl) (fun _ _ _ h=>h) rfl a0 ?_ ?_;rotate_left;(focus (intro wS h;have q0:=(h.kc c2 a8);have q1:=(h.kc b2 a1);clear h;go_simp;try rfl));dsimp only[Act.put];try simp only[aK])
    refine ag rfl (by kernel_rfl) ?_;intro KS hKS;go_simp;refine hKS.out _ _ nofun ?_;clear hKS KS;refine aF rfl (by kernel_rfl) ?_;have a4:=a0.kp b6;have e2:=a5.trans a0;revert a4 e2;clear c0 c2 b2 a1 b6 a0 a8;generalize wr.drew=w3;intro a4 e2;have b0:=ce0 a4;have b1:=ce1 a4;have b2:=ce2 a4;have e0:=ce3 a4;have b4:=ce4 a4;have a1:=ae a4;go_wp2_with fail;refine(HK.out _ e2).mono ?_;rintro en w4 ⟨rfl,e9⟩;have g4:=e9.kp a4;have f5:=e2.trans e9;clear b0 b1 b2 e0 b4 a1 HK e9 a4
    cases qk with
    |false=>
     go_wp2_with fail
     all_goals go_ret
     all_goals exact⟨⟨false,rfl,fun h=>by cases h⟩,f5⟩
    |true=>
     go_wp2_with fail
     go_roundg (n-(k+1))
     case measure=>omega
     case rel=>exact⟨k+1,by simp,by omega,e6.out trivial,f5,g4⟩
  ·have g5: ¬(k:Int)<(n:Int):=by omega
   have g1:=hid (HG.out (fun j hj=>HD.out j (by omega)));clear HG HD;go_wp2_with fail
   all_goals go_ret
   all_goals exact⟨⟨true,rfl,fun _=>g1.out⟩,a5⟩
theorem lN {t:List St} (h:iX t):(aQ t).length≤20000:=by
 have key: ∀u:List St,(∀o∈u,(dP o).length≤120)→(u.flatMap dP).length≤120*u.length:=by
  intro u
  induction u with
  |nil=>intro _;simp
  |cons o u ih=>
   intro hu;have h1:=hu o (List.mem_cons_self ..);have h2:=ih (fun o ho=>hu o (List.mem_cons_of_mem _ ho));simp only[List.flatMap_cons,List.length_append,List.length_cons];omega
 have:=key t (fun o ho=>by
  cases o with
  |none=>decide
  |some p=>
   obtain⟨s,l⟩:=p;obtain⟨k,hk⟩:=List.mem_iff_getElem?.1 ho;have:=h.2 k s l hk;simp only[dP,List.length_append,List.length_singleton];omega)
 have h1:=h.1;simp only[aQ,List.length_append,List.length_singleton];omega
theorem yI {ts:List (List St)} (h: ∀t∈ts,iX t):(ts.flatMap aQ).length≤20000*ts.length:=by
 induction ts with
 |nil=>simp
 |cons t ts ih=>
  have h1:=lN (h t (List.mem_cons_self ..));have h2:=ih (fun t ht=>h t (List.mem_cons_of_mem _ ht));simp only[List.flatMap_cons,List.length_append,List.length_cons];omega
end
section
open Go Go.RowKit Sp
theorem B6 {n:Nat} {S:List UInt8} {e:UInt8}: ∀{r:List UInt8} {f i:Nat} {t:List UInt8},g9 S i (r++ [e])→(∀c∈r,okT n c=true∧c≠e)→r.length<f→BJ n S e f i t=some (t++r,i+r.length+1)
 | [],f+1,i,t,h,_,_=>by
  have:=h 0 e rfl;rw[BJ,show S[i]?=some e from this];simp
 |c::r,f+1,i,t,h,hr,hf=>by
  have h0:=h 0 c rfl;have hc:=hr c (List.mem_cons_self ..);rw[BJ,show S[i]?=some c from h0];dsimp only;rw[if_neg hc.2,if_pos hc.1,B6 (r:=r) (i:=i+1) (g9.right (a:=[c]) h) (fun d hd=>hr d (List.mem_cons_of_mem _ hd)) (by simpa using hf)];simp only[List.append_assoc,List.singleton_append,List.length_cons]
  congr 2
  omega
theorem Ca {S:List UInt8} {i:Nat} {a:List UInt8} {e:UInt8} (h:g9 S i (a++ [e])):i+a.length<S.length:=(List.getElem?_eq_some_iff.1 (h a.length e (by simp))).1
theorem B7 {n:Nat} {S:List UInt8} {e:UInt8} {r:List UInt8} {i:Nat} (h:g9 S i (r++ [e])) (hr: ∀c∈r,okT n c=true∧c≠e):BH n S e i=some (r,i+r.length+1):=by
 have:=Ca h;exact B6 h hr (by omega)
theorem BY {n:Nat} (hn:n≤4) {S:List UInt8}: ∀{t:List St} {f i:Nat} {a:List St},g9 S i (aQ t)→(∀s l,some (s,l)∈t→(∀c∈s,okT n c=true)∧ ∀c∈l,okT n c=true)→t.length<f→kd n S f i a=some (a++t,i+(aQ t).length)
 | [],f+1,i,a,h,_,_=>by
  rw[kd,show S[i]?=some 59 from h 0 59 rfl];simp[aQ]
 |o::t,f+1,i,a,h,ht,hf=>by
  have e:aQ (o::t)=dP o++aQ t:=by simp[aQ]
  rw[e]at h⊢;have ih:=BY hn (t:=t) (f:=f) (i:=i+(dP o).length) (a:=a++ [o]) h.right (fun s l hm=>ht s l (List.mem_cons_of_mem _ hm)) (by simpa using hf);replace h:=h.left
  have fin:kd n S f (i+(dP o).length) (a++ [o])=some (a++o::t,i+(dP o++aQ t).length):=by
   rw[ih,List.length_append,Nat.add_assoc];simp
  rw[kd]
  cases o with
  |none=>
   rw[show S[i]?=some 63 from h 0 63 rfl,show S[i+1]?=some 44 from h 1 44 rfl];exact fin
  |some p=>
   obtain⟨s,l⟩:=p;obtain⟨hs,hl⟩:=ht s l (List.mem_cons_self ..);have ok: ∀{c:UInt8},okT n c=true→c.toNat≠124∧c.toNat≠44∧c.toNat≠63∧c.toNat≠59:=fun h=>by rcases uq h with h|h<;>omega
   obtain⟨c,hc,a0⟩: ∃c:UInt8,S[i]?=some c∧c.toNat≠59∧c.toNat≠63:=by
    cases s with
    |nil=>exact⟨124,h 0 124 rfl,by decide,by decide⟩
    |cons c s=>have:=ok (hs c (List.mem_cons_self ..));exact⟨c,h 0 c rfl,this.2.2.2,this.2.2.1⟩
   have h1:g9 S i (s++ [124]):=g9.left (b:=l++ [44]) (by simpa[dP]using h);have h2:g9 S (i+s.length+1) (l++ [44]):=by have:=g9.right (a:=s++ [124]) (b:=l++ [44]) (by simpa[dP]using h);simpa[Nat.add_assoc]using this
   have r1:=B7 (n:=n) h1 (fun c hc=>⟨hs c hc,fun e=>(ok (hs c hc)).1 (by rw[e];rfl)⟩);have r2:=B7 (n:=n) h2 (fun c hc=>⟨hl c hc,fun e=>(ok (hl c hc)).2.1 (by rw[e];rfl)⟩);rw[hc];dsimp only;rw[if_neg a0.1,if_neg a0.2,r1];dsimp only;rw[r2];dsimp only;rw[←fin]
   congr 1
   simp[dP];omega
theorem Cn {n:Nat} (hn:n≤4) {S:List UInt8} {t:List St} {i:Nat} (h:g9 S i (aQ t)) (ht: ∀s l,some (s,l)∈t→(∀c∈s,okT n c=true)∧ ∀c∈l,okT n c=true):BP n S i=some (t,i+(aQ t).length):=by
 have h1:=Ca h
 have h2:t.length≤(t.flatMap dP).length:=by
  clear h ht h1
  induction t with
  |nil=>simp
  |cons o t ih=>
   have:1≤(dP o).length:=by
    cases o with
    |none=>decide
    |some p=>simp[dP];omega
   simp only[List.flatMap_cons,List.length_append,List.length_cons];omega
 simpa[BP]using BY hn (a:=[]) (f:=S.length+1-i) h ht (by omega)
theorem BG {n:Nat} {S:List UInt8} (hS:S.length≤100000000): ∀{f i:Nat} {a t:List St} {j:Nat},kd n S f i a=some (t,j)→BW n a→BW n t∧j≤S.length∧t.length+i<a.length+j
 |0,i,a,t,j,h,_=>by cases h
 |f+1,i,a,t,j,h,ha=>by
  rw[kd]at h
  cases hc:S[i]? with
  |none=>rw[hc]at h;cases h
  |some c=>
   have a0:=(List.getElem?_eq_some_iff.1 hc).1;rw[hc]at h;dsimp only at h
   have snoc: ∀o:St,(∀s l,o=some (s,l)→(∀c∈s,okT n c=true)∧(∀c∈l,okT n c=true)∧s.length≤150000000∧l.length≤150000000)→BW n (a++ [o]):=fun o ho k s l hk=>by
    rw[List.getElem?_append]at hk
    split at hk
    ·exact ha k s l hk
    ·rename_i h2
     rcases Nat.eq_zero_or_pos (k-a.length)with h3|h3
     ·rw[h3]at hk;exact ho s l (by simpa using hk)
     ·rw[List.getElem?_eq_none (by simp;omega)]at hk
      cases hk
   split at h
   ·cases h
    exact⟨ha,by omega,by omega⟩
   split at h
   ·cases hd:S[i+1]? with
    |none=>rw[hd]at h;cases h
    |some d=>
     rw[hd]at h;dsimp only at h
     split at h
     ·have:=BG hS h (snoc none (fun s l h=>by cases h));rw[List.length_append,List.length_singleton]at this;exact⟨this.1,this.2.1,by omega⟩
     ·cases h
   ·cases h1:BH n S 124 i with
    |none=>rw[h1]at h;cases h
    |some p=>
     obtain⟨s,m⟩:=p;rw[h1]at h;dsimp only at h
     cases h2:BH n S 44 m with
     |none=>rw[h2]at h;cases h
     |some p=>
      obtain⟨l,k⟩:=p;rw[h2]at h;obtain⟨a1,a2,a3,a4⟩:=ol h1;obtain⟨b1,b2,b3,b4⟩:=ol h2;have:=BG hS h (snoc (some (s,l)) (fun s l h=>by cases h;exact⟨a1,b1,by omega,by omega⟩));rw[List.length_append,List.length_singleton]at this;exact⟨this.1,this.2.1,by omega⟩
theorem BZ {n:Nat} {S:List UInt8} (hS:S.length≤100000000) {i:Nat} {t:List St} {j:Nat} (h:BP n S i=some (t,j)):BW n t∧j≤S.length∧t.length≤j:=by
 obtain⟨h1,h2,h3⟩:=BG hS h (fun k s l hk=>by simp at hk);exact⟨h1,h2,by simp at h3;omega⟩
def BI (n:Nat) (U:List UInt8):Nat→Nat
 |0=>0
 |k+1=>match BP n U (BI n U k)with
  |some (_,j)=>j
  |none=>0
def Cb (n:Nat) (U:List UInt8) (k:Nat):List St:=match BP n U (BI n U k)with
 |some (t,_)=>t
 |none=> []
theorem Cu {n:Nat} {U:List UInt8} {k:Nat} {t:List St} {j:Nat} (h:BP n U (BI n U k)=some (t,j)):BI n U (k+1)=j∧Cb n U k=t:=by
 rw[BI,Cb,h];exact⟨rfl,rfl⟩
theorem BR {im:Img}: ∀{bs:List Bod} {i:Nat},(∀b∈bs,∃t,cZ im b=some t)→ ∃ts,dO im i bs= .ok ts
 | [],i,_=>⟨[],rfl⟩
 |b::bs,i,h=>by
  obtain⟨t,ht⟩:=h b (List.mem_cons_self ..);obtain⟨ts,a0⟩:=BR (bs:=bs) (i:=i+1) (fun b hb=>h b (List.mem_cons_of_mem _ hb));exact⟨t::ts,by rw[dO,ht];dsimp only;rw[a0]⟩
end
section
open Go Go.RowKit Sp
attribute [local go_sem ↓] Go.wp_at_zero Go.wp_at_succ
theorem Co (bi:Nat) (cs:List Cls) (o o':St) (w:World) (hI:gj w bi cs) (hw:WfC cs) (hn:cs.length≤4) (hok: ∀s l,o=some (s,l)→(∀c∈s,okT cs.length c=true)∧(∀c∈l,okT cs.length c=true)∧s.length≤100∧l.length≤5) (hle:leO cs o o'):
  Calls Tryz.prog 55 #[.pointer (some ⟨bi,0,none⟩),.agg (stV o),.agg (stV o')] w fun en w'=>en= .returned (.bool true)∧But (fun _=>False) w w':=by
 cases o with
 |none=>
  obtain⟨d0,d1,d2,hd⟩: ∃d0 d1 d2,stV o'=#[d0,d1,d2]:=by cases o'<;>exact⟨_,_,_,rfl⟩
  rw[hd];simp only[stV]
  go_in
  go_wp2_with fail
  all_goals go_ret
  all_goals exact⟨rfl,(But.alloc _ _ _).trans (But.alloc _ _ _)⟩
 |some p=>
  obtain⟨s,l⟩:=p
  cases o' with
  |none=>exact hle.elim
  |some p'=>
   obtain⟨s',l'⟩:=p';obtain⟨h1,h2,h3,h4⟩:=hok s l rfl
   have hb:BD cs s l (some (s',l'))=true:=by
    simp only[BD,decide_eq_true (dY hle.1),decide_eq_true (dY hle.2),lM hle.1,lM hle.2]
    rfl
   have:=BL bi cs s l (some (s',l')) w hI hw hn h1 h2 (by omega) (by omega);rw[hb]at this;exact this
def Cz (im:Img) (ts:List (List St)) (U:List UInt8):Prop:= ∀q,q<im.bodies.length→ ∃t,ts[q]?=some t∧0<t.length∧iX t∧(∀s l,some (s,l)∈t→(∀c∈s,okT im.classes.length c=true)∧ ∀c∈l,okT im.classes.length c=true)∧BP im.classes.length U (BI im.classes.length U q)=some (Cb im.classes.length U q,BI im.classes.length U (q+1))∧db im.classes t (Cb im.classes.length U q)
theorem Cv (bi:Nat) (im:Img) (ts:List (List St)) (U:List UInt8) (w:World) (hI:dk w bi im) (hW:WfI im) (htl:ts.length=im.bodies.length) (hQ:Cz im ts U) (hU:U.length≤1048576):
  Calls Tryz.prog 31 #[.pointer (some ⟨bi,0,none⟩),.string ⟨(ts.flatMap aQ).toArray⟩,.string ⟨U.toArray⟩] w fun en w'=>en= .returned (.bool true)∧But (fun _=>False) w w':=by
 have l4:=hW.nb
 have k0: ∀t∈ts,iX t:=fun t htm=>by
  obtain⟨q,hq⟩:=List.mem_iff_getElem?.1 htm;have l5:=(List.getElem?_eq_some_iff.1 hq).1;obtain⟨t',h1,_,h2,_⟩:=hQ q (by omega);rw[hq]at h1
  cases h1
  exact h2
 have i7:=yI k0;obtain⟨S,hS⟩: ∃S,ts.flatMap aQ=S:=⟨_,rfl⟩;rw[hS]at i7⊢;have HS:=hid hS;have HQ:=hid hQ;have HI:=hid hI;have i0:=hid (fun(i:Nat) w1 (h:But (fun _=>False) w w1) (hi:i≤S.length)=>BK bi im.classes S i w1 (hI.but h).cls hW.nc (by omega) hi);have i1:=hid (fun(i:Nat) w1 (h:But (fun _=>False) w w1) (hi:i≤U.length)=>BK bi im.classes U i w1 (hI.but h).cls hW.nc (by omega) hi);have h6:=hid (fun(o o':St) w1 (h:But (fun _=>False) w w1) hok a7=>Co bi im.classes o o' w1 (hI.but h).cls hW.cls hW.nc hok a7);have h9:=hid hW.nc;clear hQ hI hW hS
 go_in
 go_wp2_with fail
 go_loopg [7,8,9] im.bodies.length (fun mm is js ks wr=> ∃(k n m:Nat),is= .int .i64 n∧js= .int .i64 m∧ks= .int .i64 k∧Hid (n=((ts.take k).flatMap aQ).length)∧Hid (m=BI im.classes.length U k)∧m≤U.length∧k+mm=im.bodies.length∧But (fun _=>False) w wr)
 case atStart=>exact⟨0,0,0,rfl,rfl,rfl,by show 0=_;simp,by show 0=_;rfl,by omega,by omega,But.refl _ _⟩
 case round=>
  obtain⟨k,n,m,rfl,rfl,rfl,HN,HM,j3,hk,b4⟩:=hrel;obtain⟨v0,v1,v2,lb,e5,i5,i6,g4,g7,j0⟩:=HI.out.but b4;obtain⟨ab,cb,rfl⟩:=aq g4;have l3:lb.length=im.bodies.length:=by rw[←g7];simp
  have i2:=ce2 e5;have i4:=ae e5;clear e5 i5 i6 g4 g7 j0
  by_cases hlt:k<im.bodies.length
  ·have j2:(k:Int)<(lb.length:Int):=by omega
   obtain⟨t,h0,e9,e8,f5,f3,a7⟩:=HQ.out k hlt;have a0:ts.take (k+1)=ts.take k++ [t]:=by rw[List.take_add_one,h0];rfl
   have e7:g9 S n (aQ t):=by
    rw[←HS.out,HN.out]
    have e:ts.flatMap aQ=(ts.take k).flatMap aQ++(aQ t++(ts.drop (k+1)).flatMap aQ):=by
     conv=>lhs;rw[←List.take_append_drop (k+1) ts]
     rw[a0];simp
    rw[e];intro j c hj;rw[List.getElem?_append_right (by omega),show((ts.take k).flatMap aQ).length+j-((ts.take k).flatMap aQ).length=j from by omega,List.getElem?_append_left (List.getElem?_eq_some_iff.1 hj).1];exact hj
   have d6:=Ca e7;have b0:=i0.out n wr b4 (by omega);rw[Cn h9.out e7 f5]at b0;have b1:=fun w1 h=>i1.out m w1 h j3
   rw[HM.out,f3,←HM.out]at b1;have a2:=BZ (by omega) f3
   have f6:Hid (n+(aQ t).length=((ts.take (k+1)).flatMap aQ).length):=by
    show _=_
    rw[a0,HN.out];simp
   obtain⟨M,hM⟩: ∃M,BI im.classes.length U (k+1)=M:=⟨_,rfl⟩;obtain⟨N,hN⟩: ∃N,n+(aQ t).length=N:=⟨_,rfl⟩;obtain⟨u,hu⟩: ∃u,Cb im.classes.length U k=u:=⟨_,rfl⟩;rw[hM,hu]at b1 a2;rw[hu]at a7;rw[hN]at b0 f6;dsimp only[Cs]at b0 b1;have f7:=hid b0;have f8:=hid b1;have h8:Hid (M=BI im.classes.length U (k+1)):=hM.symm;have k3:=a7.1
   have h7:Hid (∀(j:Nat) o o',t[j]?=some o→u[j]?=some o'→(∀s l,o=some (s,l)→(∀c∈s,okT im.classes.length c=true)∧(∀c∈l,okT im.classes.length c=true)∧s.length≤100∧l.length≤5)∧leO im.classes o o'):=fun j o o' h1 h2=>by
    have h3:=a7.2 j;simp only[List.getD,h1,h2,Option.getD_some]at h3;refine⟨fun s l e=> ?_,h3⟩;subst e;have h4:=f5 s l (List.mem_of_getElem? h1);have h5:=e8.2 j s l h1;exact⟨h4.1,h4.2,h5.1,h5.2⟩
   have f4:=e8.1;obtain⟨x,hx⟩: ∃x,t.length=x:=⟨_,rfl⟩;have g0:=hid hx;have b3:u.length=x:=by omega
   have g1:=hid b3;rw[hx]at e9 f4;clear b0 b1 hM hN hu e7 h0 a0 f5 f3 a7 e8 k3 b3 HN HM hx d6;obtain⟨j4,j5,j7⟩:=a2;clear j4 j7;go_wp2_with fail;refine f7.out.mono ?_;rintro en w1 ⟨g2,v,rfl,a6⟩;have a3:=b4.trans g2;clear f7;go_wp2_with fail;refine(f8.out w1 a3).mono ?_;rintro en w2 ⟨e3,v',rfl,b5⟩;have e4:=a3.trans e3;replace a6:=ah a6 e3 (fun _ _ h=>h);rw[g0.out]at a6;rw[g1.out]at b5;obtain⟨av,cv,rfl⟩:=aq a6;obtain⟨au,cu,rfl⟩:=aq b5;obtain⟨gt,e1,b6,_,g5⟩:=aD a6 e9
   cases e1
   obtain⟨gu,e1,c7,_,g6⟩:=aD b5 e9
   cases e1
   have e0:=hid g5;have e2:=hid g6;have l6:((x:Int)!=(x:Int))=false:=by simp
   have l0: ¬((N:Int)<0):=by omega
   have k9: ¬((M:Int)<0):=by omega
   clear f8 a6 b5 g5 g6 i2 i4 g2 e3 a3;go_wp2_with fail
   go_loopg [14] x (fun m2 ns wr=> ∃(j:Nat),ns= .int .i64 j∧j+m2=x∧But (fun _=>False) w2 wr)
   case atStart=>exact⟨0,rfl,by omega,But.refl _ _⟩
   case round=>
    obtain⟨j,rfl,hj,a1⟩:=hrel;have a8:=e4.trans a1
    by_cases hjx:j<x
    ·have j1:(j:Int)<(x:Int):=by omega
     obtain⟨o,ho⟩: ∃o,t[j]?=some o:=⟨_,List.getElem?_eq_getElem (by rw[g0.out];exact hjx)⟩;obtain⟨o',b2⟩: ∃o',u[j]?=some o':=⟨_,List.getElem?_eq_getElem (by rw[g1.out];exact hjx)⟩;obtain⟨l1,l2⟩:=h7.out j o o' ho b2;have HB:=hid (fun wx h=>h6.out o o' wx h l1 l2);obtain⟨d0,d1,d2,hd⟩: ∃d0 d1 d2,stV o=#[d0,d1,d2]:=by cases o<;>exact⟨_,_,_,rfl⟩
     obtain⟨f0,f1,f2,hf⟩: ∃d0 d1 d2,stV o'=#[d0,d1,d2]:=by cases o'<;>exact⟨_,_,_,rfl⟩
     have t0:wr.cell? ⟨gt,j*3,none⟩=some d0:=a1.kc (e0.out _ _ (by rw[show j*3=j*3+0 from rfl,dx (q:=0) ho (by omega),hd];rfl)) b6;have t1:wr.cell? ⟨gt,j*3+1,none⟩=some d1:=a1.kc (e0.out _ _ (by rw[dx (q:=1) ho (by omega),hd];rfl)) b6;have t2:wr.cell? ⟨gt,j*3+2,none⟩=some d2:=a1.kc (e0.out _ _ (by rw[dx (q:=2) ho (by omega),hd];rfl)) b6;have y0:wr.cell? ⟨gu,j*3,none⟩=some f0:=a1.kc (e2.out _ _ (by rw[show j*3=j*3+0 from rfl,dx (q:=0) b2 (by omega),hf];rfl)) c7;have y1:wr.cell? ⟨gu,j*3+1,none⟩=some f1:=a1.kc (e2.out _ _ (by rw[dx (q:=1) b2 (by omega),hf];rfl)) c7;have y2:wr.cell? ⟨gu,j*3+2,none⟩=some f2:=a1.kc (e2.out _ _ (by rw[dx (q:=2) b2 (by omega),hf];rfl)) c7
     rw[hd,hf]at HB;have a4:gt<wr.heap.size:=Nat.lt_of_lt_of_le b6 a1.size;have a5:gu<wr.heap.size:=Nat.lt_of_lt_of_le c7 a1.size;have e6:But (fun _=>False) wr wr.drew:=But.drew _ _;clear ho b2 l1 l2 hd hf;go_wp2_with fail;refine aB (But (fun _=>False) wr) 10 (by kernel_rfl) ?_
     iterate 9 (refine dt (v:=?_) rfl (by kernel_rfl) (fun _ _ _ h=>h) rfl e6 ?_ ?_;rotate_left;(focus (intro wS h;have q0:=(h.kc t0 a4);have q1:=(h.kc t1 a4);have q2:=(h.kc t2 a4);have q3:=(h.kc y0 a5);have q4:=(h.kc y1 a5);have q5:=(h.kc y2 a5);clear h;go_simp;try rfl));dsimp only[Act.put];try simp only[aK])
     refine ag rfl (by kernel_rfl) ?_;intro KS hKS;go_simp;refine(HB.out _ (a8.trans e6)).mono ?_;rintro en w9 ⟨rfl,i3⟩;have g3:=e6.trans i3;refine hKS.out _ _ (fun _=>g3) ?_;clear hKS KS;refine ag rfl (by kernel_rfl) ?_;intro KS hKS;go_simp;refine hKS.out _ _ nofun ?_;clear hKS KS;refine aF rfl (by kernel_rfl) ?_;clear t0 t1 t2 y0 y1 y2;go_wp2_with fail
     go_roundg (x-(j+1))
     case measure=>omega
     case rel=>exact⟨j+1,by simp,by omega,a1.trans g3⟩
    ·have j1: ¬(j:Int)<(x:Int):=by omega
     go_wp2_with fail
     go_roundg (im.bodies.length-(k+1))
     case measure=>omega
     case rel=>exact⟨k+1,N,M,rfl,rfl,by simp,f6,h8,j5,by omega,a8⟩
  ·have j2: ¬(k:Int)<(lb.length:Int):=by omega
   have d6:n=S.length:=by rw[HN.out,←HS.out,List.take_of_length_le (by omega)]
   have heq:((n:Int)==(S.length:Int))=true:=by rw[d6];simp
   clear d6 HN;go_wp2_with fail
   all_goals go_ret
   all_goals exact⟨rfl,b4⟩
def Cp (im:Img) (U:List UInt8) (k:Nat):Prop:= ∀q,q<k→BP im.classes.length U (BI im.classes.length U q)=some (Cb im.classes.length U q,BI im.classes.length U (q+1))∧ ∀b,im.bodies[q]?=some b→kU im b (Cb im.classes.length U q)
theorem Cw {s:ByteArray} {im:Img} {U:List UInt8} (hl:da s= .ok im) (h:Cp im U im.bodies.length): ∃ts,(fJ s).1=0∧ff s=(ts.flatMap aQ,0)∧ts.length=im.bodies.length∧Cz im ts U:=by
 have hW:=mY hl
 have hb: ∀b∈im.bodies,∃t,cZ im b=some t:=fun b hb=>by
  obtain⟨q,hq⟩:=List.mem_iff_getElem?.1 hb;obtain⟨t,h1,_⟩:=pi hW.cls ((h q (List.getElem?_eq_some_iff.1 hq).1).2 b hq);exact⟨t,h1⟩
 obtain⟨ts,a1⟩:=BR (i:=0) hb;obtain⟨a4,a5⟩:=xL a1;refine⟨ts,by unfold fJ;rw[hl];simp only[a1],by unfold ff;rw[hl];simp only[a1],a4,fun q hq=> ?_⟩;have h1:=List.getElem?_eq_getElem (show q<ts.length by omega);have h2:=List.getElem?_eq_getElem hq;have h3:=a5 q _ _ h2 h1;have a2:=hW.bod _ (List.mem_of_getElem? h2);have a3:=kP hW a2 h3;obtain⟨g1,g2⟩:=h q hq;obtain⟨t',h4,h5⟩:=pi hW.cls (g2 _ h2);rw[h3]at h4
 cases h4
 have a0:=a2.len;refine⟨_,h1,by rw[a3.1];omega,a3.short a0.2 a2.loc.1,fun s l hm=> ?_,g1,h5⟩;obtain⟨j,hj⟩:=List.mem_iff_getElem?.1 hm;have:=a3.okS a0.2 j s l hj;exact⟨this.1,this.2.1⟩
theorem Ci (s:ByteArray) (U:List UInt8) (w:World) (hmax:s.size≤maxLen) (hU:U.length≤1048576):
  Calls Tryz.prog 16 #[.string s,.string ⟨U.toArray⟩] w fun en w'=>en= .returned (.bool true)∧But (fun _=>False) w w':=by
 have a4:=hid (fun w1=>sO s w1 hmax)
 cases hl:da s with
 |error e=>
  obtain⟨e,p⟩:=e;have he:((e:Int)!=0)=true:=by rw[bne_iff_ne];have:=uQ hl;omega
  rw[hl]at a4;dsimp only[zZ,qZ]at a4;clear hl
  go_in
  go_wp2_with fail;refine(a4.out _).mono ?_;rintro en w1 ⟨rfl,g0,_⟩;go_wp2_with fail
  all_goals go_ret
  all_goals exact⟨rfl,g0⟩
 |ok im=>
 have hW:=mY hl;rw[hl]at a4;dsimp only[zZ,qZ]at a4;have h2:=hW.nb;have f8:=hid (Cw (U:=U) hl);have HC:=hid (fun w1=>m6 s w1 hmax);have HT:=hid (fun w1=>jZ s w1 hmax);clear hl
 go_in
 go_wp2_with fail;refine(a4.out _).mono ?_;rintro en w2 ⟨rfl,d6,hI,_⟩;generalize w.heap.size=bi at*;have HI:=hid hI;have f7:=hid (fun(i:Nat) w1 (h:But (fun _=>False) w2 w1) (hi:i≤U.length)=>BK bi im.classes U i w1 (hI.but h).cls hW.nc (by omega) hi);clear a4 hI;go_wp2_with fail
 go_loopg [8,9] im.bodies.length (fun mm at' is wr=> ∃(k n:Nat),at'= .int .i64 n∧is= .int .i64 k∧Hid (n=BI im.classes.length U k)∧n≤U.length∧Hid (Cp im U k)∧k+mm=im.bodies.length∧But (fun _=>False) w wr∧But (fun _=>False) w2 wr)
 case atStart=>exact⟨0,0,rfl,rfl,by show 0=_;rfl,by omega,fun q hq=>absurd hq (by omega),by omega,d6,But.refl _ _⟩
 case round=>
  obtain⟨k,n,rfl,rfl,HN,g5,HH,hk,a7,a3⟩:=hrel;have b6:=HI.out.but a3;obtain⟨v0,v1,v2,lb,a8,e3,e4,b0,b1,c7⟩:=HI.out.but a3;obtain⟨ab,cb,rfl⟩:=aq b0;have h1:lb.length=im.bodies.length:=by rw[←b1];simp
  have i2:=ce2 a8;have e9:=ae a8;have f5:=hid b6
  by_cases hlt:k<im.bodies.length
  ·have g4:(k:Int)<(lb.length:Int):=by omega
   have hT:=f7.out n wr a3 g5
   cases hR:BP im.classes.length U n with
   |none=>
    rw[hR]at hT;dsimp only[Cs]at hT;have b4:=hid hT;clear hT hR a8 b6 c7 b1 b0 e3 e4 HH HN;go_wp2_with fail;refine b4.out.mono ?_;rintro en w3 ⟨a1,rfl⟩;go_wp2_with fail
    all_goals go_ret
    all_goals exact⟨rfl,a7.trans a1⟩
   |some p=>
   obtain⟨t,M⟩:=p;rw[hR]at hT;dsimp only[Cs]at hT;have b4:=hid hT;obtain⟨b2,g3,_⟩:=BZ (by omega) hR;rw[HN.out]at hR;obtain⟨p1,p2⟩:=Cu hR;obtain⟨x,hx⟩: ∃x,lb[k]?=some x:=⟨_,List.getElem?_eq_getElem (by omega)⟩;obtain⟨bd,vc,vn⟩:=x;have e2:im.bodies[k]?=some bd:=by rw[←b1,List.getElem?_map,hx];rfl
   have f3:=hW.bod bd (List.mem_of_getElem? e2)
   have e5:Hid (kU im bd t→Cp im U (k+1)):=fun hg q hq=>by
    rcases Nat.lt_or_eq_of_le (Nat.le_of_lt_succ hq)with h|rfl
    ·exact HH.out q h
    ·refine⟨by rw[p1,p2];exact hR,fun b hb=> ?_⟩;rw[e2]at hb
     cases hb
     rw[p2];exact hg
   have f6:Hid (M=BI im.classes.length U (k+1)):=p1.symm;obtain⟨a2,f2⟩:=c7 _ (List.mem_of_getElem? hx);dsimp only at a2 f2;subst f2;obtain⟨ac,cc,rfl⟩:=aq a2;obtain⟨gb,e1,a6,g7,a0⟩:=aD b0 (by omega)
   cases e1
   have d0:wr.cell? ⟨gb,k*5,none⟩=some _:=a0 _ _ (cG (k:=0) hx (by omega));have d1:wr.cell? ⟨gb,k*5+1,none⟩=some _:=a0 _ _ (cG (k:=1) hx (by omega));have d2:wr.cell? ⟨gb,k*5+2,none⟩=some _:=a0 _ _ (cG (k:=2) hx (by omega));have d3:wr.cell? ⟨gb,k*5+3,none⟩=some _:=a0 _ _ (cG (k:=3) hx (by omega));have d4:wr.cell? ⟨gb,k*5+4,none⟩=some _:=a0 _ _ (cG (k:=4) hx (by omega));have e6:=hid (fun b3 v w3 (h:But (fun _=>False) wr w3) hO=>Ch bi im bd ac cc b3 v t w3 (f5.out.but h) hW f3 (ah a2 h (fun _ _ h=>h)) b2 hO);clear hT hR hx e2 a2 a0 c7 b1 a8 b6 e3 e4 b0 HH HN p1 p2 b2 f3;go_wp2_with fail;refine b4.out.mono ?_
   rintro en w3 ⟨a1,v,rfl,e0⟩;have j1: ¬(M:Int)<0:=by omega
   have e7:=hid (e6.out w.heap.size v w3 a1 (World.ownsRow.mono e0 (by have:=a7.size;omega)));replace d0:=a1.kc d0 a6;replace d1:=a1.kc d1 a6;replace d2:=a1.kc d2 a6;replace d3:=a1.kc d3 a6;replace d4:=a1.kc d4 a6;replace i2:=a1.kc i2 e9;have h0:gb<w3.heap.size:=Nat.lt_of_lt_of_le a6 a1.size;have g6:bi<w3.heap.size:=Nat.lt_of_lt_of_le e9 a1.size;obtain⟨av,cv,rfl⟩:=aq e0;clear b4 e6 e0;go_wp2_with fail;refine e7.out.mono ?_;rintro en w4 ⟨⟨q,rfl,hq⟩,b5⟩;have HQ:=hid hq;have a5:=a1.trans b5;clear d0 d1 d2 d3 d4 i2 e7 a1 b5 hq
   cases q with
   |false=>
    go_wp2_with fail
    all_goals go_ret
    all_goals exact⟨rfl,a7.trans a5⟩
   |true=>
    have f4:=hid (e5.out (HQ.out rfl));clear e5 HQ;go_wp2_with fail
    go_roundg (im.bodies.length-(k+1))
    case measure=>omega
    case rel=>exact⟨k+1,M,rfl,by simp,f6,g3,f4,by omega,a7.trans a5,a3.trans a5⟩
  ·have g4: ¬(k:Int)<(lb.length:Int):=by omega
   obtain⟨ts,hc,f1,f0,hQ⟩:=f8.out (fun q hq=>HH.out q (by omega));rw[hc]at HC;rw[f1]at HT;dsimp only at HT;have HU:=hid (fun w1 (h:But (fun _=>False) w2 w1)=>Cv bi im ts U w1 (HI.out.but h) hW f0 hQ hU);clear hc f1 f0 hQ HH HN a8 b6 c7 b1 b0 e3 e4;generalize ts.flatMap aQ=S at*;go_wp2_with fail;refine(HC.out _).mono ?_;rintro en w3 ⟨rfl,a1⟩;clear i2 HC;go_wp2_with fail;refine(HT.out _).mono ?_;rintro en w4 ⟨rfl,b5⟩;clear HT;go_wp2_with fail;refine(eQ _ _).mono ?_;rintro en w5 ⟨rfl,rfl⟩;go_wp2_with fail;refine(eQ _ _).mono ?_;rintro en w6 ⟨rfl,rfl⟩;have e8:=a1.trans b5;go_wp2_with fail;refine(HU.out _ (a3.trans e8)).mono ?_
   rintro en w7 ⟨rfl,g1⟩;have g2:=a7.trans (e8.trans g1);go_wp2_with fail
   all_goals go_ret
   all_goals exact⟨rfl,g2⟩
end
end Go.Proofs.YtpfkkmacakjmbaaGreatDoor
