import Derived.Test.YtpfkkmacakjmbaaGreatDoorP15
import Derived.Test.YtpfkkmacakjmbaaGreatDoorP09
set_option maxRecDepth 100000
set_option maxHeartbeats 6400000
set_option linter.all false
namespace Go.Proofs.YtpfkkmacakjmbaaGreatDoor
open Proofs.Tryz
section
open Go Go.RowKit Sp
attribute [local go_sem ↓] eY eZ
def co (x:Ins):XIt:=if aQ x.op=true then⟨x.pos,107,45,x.b,none,0,0⟩else cB x
def ul (s:ByteArray) (cs:List Cls) (ns nl i:Nat) (bad:Bool):Except Nat (Ins×Nat):=if bad=true then .error i else lx s cs ns nl i
def pe (s:ByteArray) (cs:List Cls) (ns nl i:Nat) (bad:Bool) (x:XIt) (j:Nat) (bad':Bool):Prop:=
 (bad'=false/\ ∃y,ul s cs ns nl i bad= .ok (y,j)/\x=co y)\/(bad'=true/\ul s cs ns nl i bad= .error j)
section
variable {s:ByteArray} {cs:List Cls} {ns nl i:Nat}
theorem Ds {bad:Bool} {x:XIt} (h:bad=true\/s.size<=i):pe s cs ns nl i bad x i true:=by
 right
 refine⟨rfl,?_⟩;unfold ul
 cases bad with
 |true=>rfl
 |false=>
  obtain h|h:=h
  .cases h
  .simp only[dS,if_false];unfold lx;rw[tJ h]
   rfl
theorem EA {x:XIt} (h:cr.contains (pk s i).toNat=false):pe s cs ns nl i false x i true:=by
 right
 refine⟨rfl,?_⟩;simp only[ul,dS,if_false,lx,h]
theorem Al {c:UInt8} (hc:pk s i=c) (hl:cr.contains c.toNat=true) (hd:aQ c=false) (h:ba s cs ns nl c.toNat (i+1)= .ok (0,0,i+1)) (hn: ¬(c.toNat=110\/c.toNat=120\/c.toNat=103\/c.toNat=112\/c.toNat=99)):pe s cs ns nl i false ⟨i,c,45,0,none,0,0⟩ (i+1) false:=by
 left
 refine⟨rfl,⟨c,0,0,i⟩,?_,?_⟩
 .simp only[ul,dS,if_false,lx,hc,hl,if_true,h,hd]
 .unfold co cB;simp only[hd,dS,if_false,if_neg hn]
theorem Am {c:UInt8} (hc:pk s i=c) (hl:cr.contains c.toNat=true) (hd:aQ c=true) (h:ba s cs ns nl c.toNat (i+1)= .ok (0,0,i+1)):pe s cs ns nl i false ⟨i,107,45,c.toNat-48,none,0,0⟩ (i+1) false:=by
 left
 refine⟨rfl,⟨c,0,c.toNat-48,i⟩,?_,?_⟩
 .simp only[ul,dS,if_false,lx,hc,hl,if_true,h,hd]
 .unfold co;simp only[hd,if_true]
theorem Dt {c:UInt8} (hc:pk s i=c) (h:c.toNat=108\/c.toNat=115\/c.toNat=110\/c.toNat=120\/c.toNat=103\/c.toNat=112\/c.toNat=99) {x:XIt} {j:Nat} {bad':Bool} (hI:rW s cs ns nl i false x j bad'):pe s cs ns nl i false x j bad':=by
 have hl:cE.contains c.toNat=true:=by rcases h with h|h|h|h|h|h|h<;>(rw[h];decide)
 have d:cr.contains c.toNat=true:=by rcases h with h|h|h|h|h|h|h<;>(rw[h];decide)
 have e:aQ c=false:=by rcases h with h|h|h|h|h|h|h<;>simp[aQ,h]
 unfold rW zN oI at hI;unfold pe ul lx;simp only[dS,if_false,hc,hl,d,if_true,e]at hI⊢;obtain⟨b,y,a,f⟩ | ⟨b,a⟩:=hI
 .left
  refine⟨b,y,?_,?_⟩
  .rw[<-a]
   cases ba s cs ns nl c.toNat (i+1)<;>rfl
  .rw[f]
   have g:y.op=c:=by
    cases ho:ba s cs ns nl c.toNat (i+1)with
    |error q=>rw[ho]at a;cases a
    |ok q=>rw[ho]at a;cases a;rfl
   unfold co;rw[g,e];simp
 .right
  refine⟨b,?_⟩;rw[<-a]
  cases ba s cs ns nl c.toNat (i+1)<;>rfl
theorem Ci {c:UInt8} {x:XIt} {j:Nat} {bad':Bool} (hnc:cs.length<=4) (hpc:pk s i=c) (hn: ¬(c.toNat=114\/c.toNat=122\/c.toNat=43\/c.toNat=45\/c.toNat=42\/c.toNat=47\/c.toNat=60\/c.toNat=61\/c.toNat=101\/c.toNat=119\/c.toNat=44\/c.toNat=105\/c.toNat=111\/c.toNat=48\/c.toNat=49\/c.toNat=50\/c.toNat=51\/c.toNat=52\/c.toNat=53\/c.toNat=54\/c.toNat=55\/c.toNat=56\/c.toNat=57))
  (h:il s cs ns nl i c (i+1) false=(x,j,bad')):pe s cs ns nl i false x j bad':=by
 by_cases h1:c.toNat=108\/c.toNat=115\/c.toNat=110\/c.toNat=120\/c.toNat=103\/c.toNat=112\/c.toNat=99
 .exact Dt hpc h1 (BM hnc hpc (by omega) h)
 .unfold il at h;rw[if_neg (by omega),if_neg (by omega),if_neg (by omega),if_neg (by omega)]at h;obtain⟨rfl,rfl,rfl⟩:=(by simpa using h:_/\_/\_)
  try simp only[dS,if_false]
  refine EA ?_;rw[hpc];simp only[cr,List.contains_eq_mem,List.mem_cons,List.not_mem_nil,or_false,decide_eq_false_iff_not];omega
end
theorem lV (c:UInt8) (w:World):
  Calls prog 200 #[.int .u8 c.toNat] w λen w'=>en= .returned (.int .i64 (az c))/\w'=w:=by
 by_cases h:c.toNat=103\/c.toNat=120\/c.toNat=115\/c.toNat=119\/c.toNat=43\/c.toNat=45\/c.toNat=42\/c.toNat=47\/c.toNat=60\/c.toNat=61\/c.toNat=101\/c.toNat=99\/c.toNat=112\/c.toNat=44\/c.toNat=111\/c.toNat=105
 .obtain h|h|h|h|h|h|h|h|h|h|h|h|h|h|h|h:=h
  all_goals
   have E: ∀j:Int,((c.toNat:Int)==j)=_:=λj=>congrArg (λn:Nat=>((n:Int)==j)) h
   rw[show az c=_ from by unfold az;rw[h]];clear h
   go_in
   go_wp2_with fail;go_ret;exact⟨rfl,rfl⟩
 .simp only[not_or]at h;obtain⟨b,k,g,i,m,q,l,r,s,t,a,v,f,p,e,d⟩:=h;rw[show az c=0 from by simp[az,b,k,g,i,m,q,l,r,s,t,a,v,f,p,e,d]];have E: ∀j:Nat,c.toNat≠j->((c.toNat:Int)==(j:Int))=false:=λj h=>by rw[eu];omega
  have y:=E 103 b;have F:=E 120 k;have C:=E 115 g;have D:=E 119 i;have H:=E 43 m;have J:=E 45 q;have G:=E 42 l;have L:=E 47 r;have M:=E 60 s;have O:=E 61 t;have x:=E 101 a;have P:=E 99 v;have B:=E 112 f;have I:=E 44 p;have A:=E 111 e;have z:=E 105 d;clear E b k g i m q l r s t a v f p e d
  go_in
  go_wp2_with fail;go_ret;exact⟨rfl,rfl⟩
section
variable (b base:Nat) (s:ByteArray) (i:Nat) (SC:List Cls) (a0 a1 al:Option Addr) (ng nl cap0 cap1 capl:Nat) (v2:RdV) (w:World)
theorem EB (c:UInt8) (hc:c.toNat=114\/c.toNat=122\/c.toNat=43\/c.toNat=45\/c.toNat=42\/c.toNat=47\/c.toNat=60\/c.toNat=61\/c.toNat=101\/c.toNat=119\/c.toNat=44\/c.toNat=105\/c.toNat=111) (hlt:i<s.size) (hpc:pk s i=c) (hnc:SC.length<=4) (hng:ng<=3) (hnl:nl<=10) (hs:s.size<=2000)
  (hR:XrB w b s i false (.slice a0 SC.length cap0) (.slice a1 ng cap1) v2) (hv:v2.hl= .slice al nl capl):
  Calls prog 199 #[.pointer (some ⟨b,0,none⟩)] w λen w'=>But (· =b) w w'/\ ∃x j bad',en= .returned (itV x)/\XrB w' b s j bad' (.slice a0 SC.length cap0) (.slice a1 ng cap1) v2/\pe s SC ng nl i false x j bad':=by
 obtain hc|hc|hc|hc|hc|hc|hc|hc|hc|hc|hc|hc|hc:=hc
 all_goals
  have y:=hid hc;have E: ∀j:Int,((c.toNat:Int)==j)=_:=λj=>congrArg (λn:Nat=>((n:Int)==j)) hc
  clear hc;have F:=hR.lt;have G:=hR.c3;obtain⟨m,r,t⟩:=gZ w b F #[.int .i64 0,.int .u8 0,.int .u8 0,.int .i64 0,S_] #[.int .i64 i,.int .u8 0,.int .u8 45,.int .i64 0,S_] 219;have p:=hR.but ((aa (λ_=>False) w (.cells #[.int .i64 0,.int .u8 0,.int .u8 0,.int .i64 0,S_] 219)).trans (aa _ _ (.cells #[.int .i64 i,.int .u8 0,.int .u8 45,.int .i64 0,S_] 219))) (λh=>h);have g:=hid (kH.mk m r t);have f:=hid (cS b s i false _ _ v2 _ hs p);rw[oV hlt,hpc]at f;clear m p r t
  go_in
  go_wp2_with fail;refine f.out.mono ?_;rintro en w1 ⟨rfl,A,B⟩;have a:=g.out.next (by omega) (by omega) A;obtain⟨q0,q1,q2,q3,q4⟩:=dp a.item;obtain⟨M,O,P,Q,S⟩:=dI a.item;obtain⟨y0,y1,y2,y3,y4⟩:=dp a.box;obtain⟨T,X,Y,Z,g4⟩:=dI a.box;have q:=a.set1 (by omega) (by omega) (.int .u8 c.toNat);have C:=B.but (aj w1 (w.heap.size+1) 1 (.int .u8 c.toNat)) (by omega);have z:=hid q;clear a q g f G;have l:=hid (z.out);have D:=C;go_wp2_with fail;have e:=iI l.out.box (.int .i64 i) (.int .u8 c.toNat) (.int .u8 45) (.int .i64 0) S_;have d:=jP (w1.setCell ⟨w.heap.size+1,1,none⟩ (.int .u8 c.toNat)) w.heap.size (.int .i64 i) (.int .u8 c.toNat) (.int .u8 45) (.int .i64 0) S_
  unfold tT at e d;revert e d;generalize (((((w1.setCell ⟨w.heap.size+1,1,none⟩ (.int .u8 c.toNat)).setCell ⟨w.heap.size,0,none⟩ (.int .i64 i)).setCell ⟨w.heap.size,1,none⟩ (.int .u8 c.toNat)).setCell ⟨w.heap.size,2,none⟩ (.int .u8 45)).setCell ⟨w.heap.size,3,none⟩ (.int .i64 0)).setCell ⟨w.heap.size,4,none⟩ S_=w9;intro e d;obtain⟨r0,H,I,J,L⟩:=dp e;exact cA (v:= .agg #[(.int .i64 i),(.int .u8 c.toNat),(.int .u8 45),(.int .i64 0),S_]) (by simp[results,results199,go_sem,r0,H,I,J,L]) rfl ⟨l.out.but.next d (λk hk h=>by omega),⟨i,c,45,0,none,0,0⟩,i+1,false,rfl,D.but d (by omega),Al hpc (by rw[y.out];decide) (by simp[aQ,y.out]) (by rw[y.out];rfl) (by rw[y.out];decide)⟩
theorem EC (c:UInt8) (d:Nat) (hc:d=0\/d=1\/d=2\/d=3\/d=4\/d=5\/d=6\/d=7\/d=8\/d=9) (m:c.toNat=48+d) (hlt:i<s.size) (hpc:pk s i=c) (hnc:SC.length<=4) (hng:ng<=3) (hnl:nl<=10) (hs:s.size<=2000)
  (hR:XrB w b s i false (.slice a0 SC.length cap0) (.slice a1 ng cap1) v2) (hv:v2.hl= .slice al nl capl):
  Calls prog 199 #[.pointer (some ⟨b,0,none⟩)] w λen w'=>But (· =b) w w'/\ ∃x j bad',en= .returned (itV x)/\XrB w' b s j bad' (.slice a0 SC.length cap0) (.slice a1 ng cap1) v2/\pe s SC ng nl i false x j bad':=by
 obtain hc|hc|hc|hc|hc|hc|hc|hc|hc|hc:=hc
 all_goals
  have l:=hid (And.intro m hc);have E: ∀j:Int,((c.toNat:Int)==j)=_:=λj=>congrArg (λn:Nat=>((n:Int)==j)) (m.trans (congrArg (48+ ·) hc))
  have M:(c.toNat:Int)-48=d:=by omega
  have O:(d:Int)<=9:=by omega
  clear hc m;have L:=hR.lt;have P:=hR.c3;obtain⟨r,B,C⟩:=gZ w b L #[.int .i64 0,.int .u8 0,.int .u8 0,.int .i64 0,S_] #[.int .i64 i,.int .u8 0,.int .u8 45,.int .i64 0,S_] 219;have t:=hR.but ((aa (λ_=>False) w (.cells #[.int .i64 0,.int .u8 0,.int .u8 0,.int .i64 0,S_] 219)).trans (aa _ _ (.cells #[.int .i64 i,.int .u8 0,.int .u8 45,.int .i64 0,S_] 219))) (λh=>h);have p:=hid (kH.mk r B C);have g:=hid (cS b s i false _ _ v2 _ hs t);rw[oV hlt,hpc]at g;clear r t B C
  go_in
  go_wp2_with fail;refine g.out.mono ?_;rintro en w1 ⟨rfl,F,G⟩;have a:=p.out.next (by omega) (by omega) F;obtain⟨q0,q1,q2,q3,q4⟩:=dp a.item;obtain⟨Y,Z,f2,f3,f4⟩:=dI a.item;obtain⟨y0,y1,y2,y3,y4⟩:=dp a.box;obtain⟨g0,g1,g2,g3,g4⟩:=dI a.box;have y:=a.set1 (by omega) (by omega) (.int .u8 c.toNat);have H:=G.but (aj w1 (w.heap.size+1) 1 (.int .u8 c.toNat)) (by omega);have D:=hid y;clear a y p g P;have z:=D.out.set3 (by omega) (by omega) (.int .i64 d);have A:=z.set1 (by omega) (by omega) (.int .u8 107);have I:=(H.but (aj _ (w.heap.size+1) 3 (.int .i64 d)) (by omega)).but (aj _ (w.heap.size+1) 1 (.int .u8 107)) (by omega)
  have q:=hid A;have J:=I;clear z A;go_wp2_with fail;have f:=iI q.out.box (.int .i64 i) (.int .u8 107) (.int .u8 45) (.int .i64 d) S_;have e:=jP (((w1.setCell ⟨w.heap.size+1,1,none⟩ (.int .u8 c.toNat)).setCell ⟨w.heap.size+1,3,none⟩ (.int .i64 d)).setCell ⟨w.heap.size+1,1,none⟩ (.int .u8 107)) w.heap.size (.int .i64 i) (.int .u8 107) (.int .u8 45) (.int .i64 d) S_;unfold tT at f e;revert f e;generalize (((((((w1.setCell ⟨w.heap.size+1,1,none⟩ (.int .u8 c.toNat)).setCell ⟨w.heap.size+1,3,none⟩ (.int .i64 d)).setCell ⟨w.heap.size+1,1,none⟩ (.int .u8 107)).setCell ⟨w.heap.size,0,none⟩ (.int .i64 i)).setCell ⟨w.heap.size,1,none⟩ (.int .u8 107)).setCell ⟨w.heap.size,2,none⟩ (.int .u8 45)).setCell ⟨w.heap.size,3,none⟩ (.int .i64 d)).setCell ⟨w.heap.size,4,none⟩ S_=w9
  intro f e;obtain⟨r0,Q,S,T,X⟩:=dp f;exact cA (v:= .agg #[(.int .i64 i),(.int .u8 107),(.int .u8 45),(.int .i64 d),S_]) (by simp[results,results199,go_sem,r0,Q,S,T,X]) rfl ⟨q.out.but.next e (λk hk h=>by omega),⟨i,107,45,d,none,0,0⟩,i+1,false,rfl,J.but e (by omega),(by have:=Am (cs:=SC) (ns:=ng) (nl:=nl) hpc (by rw[l.out.1,l.out.2];decide) (by simp[aQ,l.out.1,l.out.2]) (by rw[l.out.1,l.out.2];rfl);rw[l.out.1,Nat.add_sub_cancel_left]at this;exact this)⟩
theorem rh (bad:Bool) (c:UInt8) (j1:Nat) (bad1:Bool) (hT:tbP s i bad=(c,j1,bad1)) (hn: ¬(c.toNat=114\/c.toNat=122\/c.toNat=43\/c.toNat=45\/c.toNat=42\/c.toNat=47\/c.toNat=60\/c.toNat=61\/c.toNat=101\/c.toNat=119\/c.toNat=44\/c.toNat=105\/c.toNat=111\/c.toNat=48\/c.toNat=49\/c.toNat=50\/c.toNat=51\/c.toNat=52\/c.toNat=53\/c.toNat=54\/c.toNat=55\/c.toNat=56\/c.toNat=57)) (hI: ∀x j bad',il s SC ng nl i c j1 bad1=(x,j,bad')->pe s SC ng nl i bad x j bad') (hnc:SC.length<=4) (hng:ng<=3) (hnl:nl<=10) (hs:s.size<=2000)
  (hR:XrB w b s i bad (.slice a0 SC.length cap0) (.slice a1 ng cap1) v2) (hv:v2.hl= .slice al nl capl) (hG:c.toNat=103\/c.toNat=112->WfC SC/\TcV w base (.slice a0 SC.length cap0) (SC.map toX)) (hb:b<base):
  Calls prog 199 #[.pointer (some ⟨b,0,none⟩)] w λen w'=>But (· =b) w w'/\ ∃x j bad',en= .returned (itV x)/\XrB w' b s j bad' (.slice a0 SC.length cap0) (.slice a1 ng cap1) v2/\pe s SC ng nl i bad x j bad':=by
 have O:=hR.lt;have p3:=hR.c3;obtain⟨y,B,C⟩:=gZ w b O #[.int .i64 0,.int .u8 0,.int .u8 0,.int .i64 0,S_] #[.int .i64 i,.int .u8 0,.int .u8 45,.int .i64 0,S_] 219;have z:=hR.but ((aa (λ_=>False) w (.cells #[.int .i64 0,.int .u8 0,.int .u8 0,.int .i64 0,S_] 219)).trans (aa _ _ (.cells #[.int .i64 i,.int .u8 0,.int .u8 45,.int .i64 0,S_] 219))) (λh=>h);have q:=hid (kH.mk y B C);have m:=hid (cS b s i bad _ _ v2 _ hs z);rw[hT]at m;have T:=tf c.toNat 114 (by omega);have Y:=tf c.toNat 122 (by omega);have a3:=tf c.toNat 43 (by omega);have a5:=tf c.toNat 45 (by omega)
 have a2:=tf c.toNat 42 (by omega);have a6:=tf c.toNat 47 (by omega);have c9:=tf c.toNat 60 (by omega);have e0:=tf c.toNat 61 (by omega);have P:=tf c.toNat 101 (by omega);have X:=tf c.toNat 119 (by omega);have a4:=tf c.toNat 44 (by omega);have Q:=tf c.toNat 105 (by omega);have S:=tf c.toNat 111 (by omega);have b0:=tf c.toNat 48 (by omega);have b1:=tf c.toNat 49 (by omega);have b2:=tf c.toNat 50 (by omega);have b4:=tf c.toNat 51 (by omega);have b5:=tf c.toNat 52 (by omega);have b6:=tf c.toNat 53 (by omega);have b7:=tf c.toNat 54 (by omega);have b8:=tf c.toNat 55 (by omega);have b9:=tf c.toNat 56 (by omega)
 have c8:=tf c.toNat 57 (by omega);clear hn;clear y z B C
 go_in
 go_wp2_with fail;refine m.out.mono ?_;rintro en w1 ⟨rfl,F,I⟩;have a:=q.out.next (by omega) (by omega) F;obtain⟨q0,q1,q2,q3,q4⟩:=dp a.item;obtain⟨Z,f1,f2,f3,f4⟩:=dI a.item;obtain⟨y0,y1,y2,y3,y4⟩:=dp a.box;obtain⟨g0,g1,g2,g3,g4⟩:=dI a.box;have A:=a.set1 (by omega) (by omega) (.int .u8 c.toNat);have J:=I.but (aj w1 (w.heap.size+1) 1 (.int .u8 c.toNat)) (by omega);have r:=hid A;clear a A q m p3;have p:=hid (λh=>hG h);have D:=hid hI;clear hG hI;have n:=zP b base s j1 SC a0 a1 al ng nl cap0 cap1 capl v2 (w1.setCell ⟨w.heap.size+1,1,none⟩ (.int .u8 c.toNat)) i bad1 c hnc hng hnl hs J hv (λh=>⟨(p.out h).1,(p.out h).2.but r.out.but (λg e cur _ _ hg he=>by omega)⟩) hb
 unfold itV at n;have E:=hid n;clear n;go_wp2_with fail;refine E.out.mono ?_;rintro en w3 ⟨G,x,j3,b3,rfl,L,H⟩;clear q0 q1 q2 q3 q4 Z f1 f2 f3 f4 y0 y1 y2 y3 y4 g0 g1 g2 g3 g4;have f:=r.out.next (by omega) (by omega) G;obtain⟨q0,q1,q2,q3,q4⟩:=dp f.item;obtain⟨Z,f1,f2,f3,f4⟩:=dI f.item;obtain⟨y0,y1,y2,y3,y4⟩:=dp f.box;obtain⟨g0,g1,g2,g3,g4⟩:=dI f.box;have t:=hid (f);have M:=L;go_wp2_with fail;have l:=iI t.out.box (.int .i64 x.place) (.int .u8 x.op.toNat) (.int .u8 x.cls.toNat) (.int .i64 x.num) (.slice x.pa x.pn x.pc);have d:=jP w3 w.heap.size (.int .i64 x.place) (.int .u8 x.op.toNat) (.int .u8 x.cls.toNat) (.int .i64 x.num) (.slice x.pa x.pn x.pc)
 unfold tT at l d;revert l d;generalize ((((w3.setCell ⟨w.heap.size,0,none⟩ (.int .i64 x.place)).setCell ⟨w.heap.size,1,none⟩ (.int .u8 x.op.toNat)).setCell ⟨w.heap.size,2,none⟩ (.int .u8 x.cls.toNat)).setCell ⟨w.heap.size,3,none⟩ (.int .i64 x.num)).setCell ⟨w.heap.size,4,none⟩ (.slice x.pa x.pn x.pc)=w9;intro l d;obtain⟨r0,r1,r2,r3,r4⟩:=dp l;exact cA (v:= .agg #[(.int .i64 x.place),(.int .u8 x.op.toNat),(.int .u8 x.cls.toNat),(.int .i64 x.num),(.slice x.pa x.pn x.pc)]) (by simp[results,results199,go_sem,r0,r1,r2,r3,r4]) rfl ⟨t.out.but.next d (λk hk h=>by omega),x,j3,b3,rfl,M.but d (by omega),D.out _ _ _ H⟩
theorem An (bad:Bool) (hG:bad=true\/(WfC SC/\TcV w base (.slice a0 SC.length cap0) (SC.map toX))) (hnc:SC.length<=4) (hng:ng<=3) (hnl:nl<=10) (hs:s.size<=2000)
  (hR:XrB w b s i bad (.slice a0 SC.length cap0) (.slice a1 ng cap1) v2) (hv:v2.hl= .slice al nl capl) (hb:b<base):
  Calls prog 199 #[.pointer (some ⟨b,0,none⟩)] w λen w'=>But (· =b) w w'/\ ∃x j bad',en= .returned (itV x)/\XrB w' b s j bad' (.slice a0 SC.length cap0) (.slice a1 ng cap1) v2/\pe s SC ng nl i bad x j bad':=by
 by_cases hz:bad=true\/s.size<=i
 .refine rh b base s i SC a0 a1 al ng nl cap0 cap1 capl v2 w bad 0 i true (nM hz) (by decide) (λx j bad' h=> ?_) hnc hng hnl hs hR hv (λh=>by simp at h) hb;rw[BN]at h;obtain⟨rfl,rfl,rfl⟩:=(by simpa using h:_/\_/\_);exact Ds hz
 have e:=not_or.1 hz;have d:bad=false:=by simpa using e.1
 subst d;have a:i<s.size:=by omega
 have c:WfC SC/\TcV w base (.slice a0 SC.length cap0) (SC.map toX):=by rcases hG with h|h;cases h;exact h
 by_cases ha:(pk s i).toNat=114\/(pk s i).toNat=122\/(pk s i).toNat=43\/(pk s i).toNat=45\/(pk s i).toNat=42\/(pk s i).toNat=47\/(pk s i).toNat=60\/(pk s i).toNat=61\/(pk s i).toNat=101\/(pk s i).toNat=119\/(pk s i).toNat=44\/(pk s i).toNat=105\/(pk s i).toNat=111
 .exact EB b s i SC a0 a1 al ng nl cap0 cap1 capl v2 w _ ha a rfl hnc hng hnl hs hR hv
 by_cases hd:48<=(pk s i).toNat/\(pk s i).toNat<=57
 .exact EC b s i SC a0 a1 al ng nl cap0 cap1 capl v2 w _ ((pk s i).toNat-48) (by omega) (by omega) a rfl hnc hng hnl hs hR hv
 exact rh b base s i SC a0 a1 al ng nl cap0 cap1 capl v2 w false (pk s i) (i+1) false (oV a) (by omega) (λx j bad' h=>Ci hnc rfl (by omega) h) hnc hng hnl hs hR hv (λ_=>c) hb
end
def gL (l:List Nat):List Value:=l.map λ(k:Nat)=>Value.int .i64 (k:Int)
def ox (its:List XIt):List Ins:=its.map λx=>⟨x.op,0,0,0⟩
def de (t:List Ins):Nat->Nat->List Nat
 |0,_=> []
 |n+1,k=>if k<t.length then k::de t n (aR t k)else []
def eK (t:List Ins) (k:Nat):List Nat:=match t[k]? with
 |some x=>de t (az x.op) (k+1)
 |none=> []
theorem mD {t:List Ins} {k:Nat} {x:Ins} (h:t[k]?=some x):aR t k=k+1+sk (az x.op) (t.drop (k+1)):=by
 obtain⟨hl,a⟩:=bc h;unfold aR;rw[List.drop_eq_getElem_cons hl,a];simp[sk];omega
theorem oy {t:List Ins} {m p:Nat}:p+sk (m+1) (t.drop p)=aR t p+sk m (t.drop (aR t p)):=by
 rw[Nat.add_comm m 1,Ea,List.drop_drop];unfold aR;omega
theorem ED {m:Nat}:sk m []=0:=by cases m<;>rfl
theorem um {t:List Ins} {k:Nat} (h:k<=t.length):aR t k<=t.length:=by
 unfold aR;have:=D3 (t:=t.drop k) (m:=1);rw[List.length_drop]at this;omega
theorem p9 {t:List Ins} {k:Nat} (h:k<t.length):k<aR t k:=by
 rw[mD (aG h)];omega
theorem vU:(prog.info? 3).map (λi=>(i.zero,i.size,i.bytes))=some (some (.int .i64 0),1,8):=by kernel_rfl
theorem Cj (n:Nat):madeCells #[.int .i64 0] n=(gL (List.replicate n 0)).toArray:=by
 apply Array.ext
 .rw[size_madeCells];simp[gL]
 .intro k a b;have e:k % 1=0:=by omega
  simp[madeCells,e,gL]
theorem Ck (n:Nat) (hn:n<=1000) (w:World):(Instr.makeSlice 217 (.int .i64 (n:Int)) (.int .i64 (n:Int))).run prog w= .ok (.slice (some ⟨w.heap.size,0,none⟩) n n) (w.alloc (.cells (gL (List.replicate n 0)).toArray 3)):=by
 have a:=vU
 cases hi:prog.info? 3 with
 |none=>rw[hi]at a;cases a
 |some i=>
  rw[hi]at a;simp only[Option.map_some,Option.some.injEq,Prod.mk.injEq]at a;obtain⟨d,c,b⟩:=a;have:=run_make (P:=prog) w 217 3 i _ (by kernel_rfl) hi d .i64 .i64 n n (by omega) (by omega) (by rw[b];omega) (by omega);rw[this,c];simp only[jZ,Value.cells,Nat.mul_one];rw[Cj]
structure WpI (w:World) (base:Nat) (its its':List XIt) (bh:List Nat) (q:Nat):Prop where
 len:its'.length=its.length
 blen:bh.length=its.length
 lo: ∀k,k<q->its'[k]?=its[k]?
 hi: ∀k,q<=k->k<its.length->bh[k]?=some (aR (ox its) k)
 pt: ∀k x x',q<=k->its[k]?=some x->its'[k]?=some x'->x'.place=x.place/\x'.op=x.op/\x'.cls=x.cls/\x'.num=x.num/\w.ownsRow base 3 1 (.slice x'.pa x'.pn x'.pc) (eK (ox its) k).length (gL (eK (ox its) k))
theorem oz: ∀{l:List XIt} {p:Nat} {x:XIt} (h:l[p]?=some x) (a:Option Addr) (n c:Nat),(ck l).set (p*5+4) (.slice a n c)=ck (l.set p {x with pa:=a,pn:=n,pc:=c}):=by
 intro l
 induction l with
 |nil=>intro p x h;simp at h
 |cons y l ih=>
  intro p x h a n c
  cases p with
  |zero=>
   simp at h;subst h;simp[ck]
  |succ p=>
   have b:=ih (p:=p) (x:=x) (by simpa using h) a n c;rw[show(p+1)*5+4=(p*5+4)+5 from by omega];simp only[ck,lr,List.cons_append,List.nil_append,List.set_cons_succ]at b⊢;rw[b]
theorem qa {l:List Nat} {k v:Nat} (h:l[k]?=some v):(gL l)[k]?=some (.int .i64 v):=by simp[gL,h]
theorem Ao (l:List Nat) (k:Nat):gL (l++ [k])=gL l++ [.int .i64 k]:=by simp[gL]
theorem vV (l:List Nat) (p k:Nat):(gL l).set p (.int .i64 k)=gL (l.set p k):=by simp[gL,List.map_set]
theorem lW (its:List XIt):(ox its).length=its.length:=by simp[ox]
theorem Du {its:List XIt} {k:Nat} {x:XIt} (h:its[k]?=some x):(ox its)[k]?=some ⟨x.op,0,0,0⟩:=by simp[ox,h]
structure PtI (t:List Ins) (p ar:Nat) (l:List Nat) (k:Nat):Prop where
 pts:l++de t (ar-l.length) k=eK t p
 fin:k+sk (ar-l.length) (t.drop k)=aR t p
 gt:p<k
 le:k<=t.length
theorem PtI.next {t:List Ins} {p ar:Nat} {l:List Nat} {k:Nat} (h:PtI t p ar l k) (hl:l.length<ar) (hk:k<t.length):PtI t p ar (l++ [k]) (aR t k):=by
 obtain⟨d,b⟩: ∃d,ar-l.length=d+1:=⟨ar-l.length-1,by omega⟩;have a:ar-(l++ [k]).length=d:=by simp;omega
 refine⟨?_,?_,?_,um (by omega)⟩
 .rw[a,<-h.pts,b];simp[de,hk]
 .rw[a,<-h.fin,b,oy]
 .have:=h.gt;have:=p9 hk;omega
theorem PtI.done {t:List Ins} {p ar:Nat} {l:List Nat} {k:Nat} (h:PtI t p ar l k) (hl: ¬l.length<ar\/ ¬k<t.length):l=eK t p/\k=aR t p:=by
 obtain hl|hl:=hl
 .have c:ar-l.length=0:=by omega
  have a:=h.pts;have b:=h.fin;rw[c]at a b;simp[de,pW]at a b;exact⟨a,b⟩
 .have a:=h.pts;have b:=h.fin;rw[List.drop_eq_nil_of_le (by omega),ED]at b
  cases hd:ar-l.length with
  |zero=>rw[hd]at a;simp[de]at a;exact⟨a,by omega⟩
  |succ d=>rw[hd]at a;simp[de,hl]at a;exact⟨a,by omega⟩
theorem kB (bx:Nat) (its:List XIt) (ai:Option Addr) (capi:Nat) (w:World) (hn:its.length<=24) (hi:ItB w bx (.slice ai its.length capi) its):
  Calls prog 202 #[.slice ai its.length capi] w λen w'=>B_ w w'/\ ∃ao cap its' bh,en= .returned (.slice ao its'.length cap)/\ItB w' w.heap.size (.slice ao its'.length cap) its'/\WpI w' w.heap.size its its' bh 0:=by
 have hE:=ItB.empty w;have i5:=Ck its.length (by omega)
 go_in
 go_wp2_with (at_builtin;refine ll rfl _ _ rfl w.heap.size bx _ _ its rfl rfl hE (ag hi (aa (λ_=>False) _ _) (λ_ _ h=>h)) (by omega) (by simp) ?_);intro ao cap a a2 b7;have O:B_ w a:=(aa (λ_=>False) _ _).next b7 (λk hk h=>by simp[Value.ownBlock]at h;omega);clear hE b7;go_wp2_with fail
 have g0:(a.alloc (.cells (gL (List.replicate its.length 0)).toArray 3)).ownsRow a.heap.size 3 1 (.slice (some ⟨a.heap.size,0,none⟩) its.length its.length) its.length (gL (List.replicate its.length 0)):=
  ⟨by simp[gL],Or.inr ⟨a.heap.size,its.length,_,rfl,bP _,aO _ _,by simp[gL],by unfold maxLen;omega,by simp[gL],by simp[gL]⟩⟩
 have f2:B_ w (a.alloc (.cells (gL (List.replicate its.length 0)).toArray 3)):=O.trans (aa _ _ _);have f5:ItB (a.alloc (.cells (gL (List.replicate its.length 0)).toArray 3)) w.heap.size (.slice ao its.length cap) its:=ag a2 (aa (λ_=>False) _ _) (λ_ _ h=>h);have j3:(a.alloc (.cells (gL (List.replicate its.length 0)).toArray 3)).heap.size=a.heap.size+1:=by simp
 generalize (a.alloc (.cells (gL (List.replicate its.length 0)).toArray 3))=w3 at*;have h6:=O.size
 go_loopg [5] its.length (λmm js wr=> ∃(v:Int) (q:Nat) (its':List XIt) (bh:List Nat),js= .int .i64 v/\v=(q:Int)-1/\q<=its.length/\q<=mm/\mm<=q/\wr.ownsRow w.heap.size 219 5 (.slice ao its.length cap) its.length (ck its')/\wr.ownsRow a.heap.size 3 1 (.slice (some ⟨a.heap.size,0,none⟩) its.length its.length) its.length (gL bh)/\B_ w wr/\a.heap.size<wr.heap.size/\Hid (WpI wr (a.heap.size+1) its its' bh q))
 case atStart=>exact⟨_,its.length,its,_,rfl,rfl,by omega,by omega,by omega,f5,g0,f2,by omega,⟨rfl,by simp,λ_ _=>rfl,λk r h2=>absurd r (by omega),λk x x' r h2 h3=>absurd (bc h2).1 (by omega)⟩⟩
 case round=>
  obtain⟨v,q,its',bh,rfl,hv,e8,f0,j2,J,a4,Y,j5,M⟩:=hrel
  cases q with
  |zero=>
   have g6: ¬(0:Int)<=v:=by omega
   have b5:=hid M.out.len;go_wp2_with fail
   have b0:WpI wr w.heap.size its its' bh 0:=by
    have h:=M.out
    exact⟨h.len,h.blen,h.lo,h.hi,λk x x' r h2 h3=>by
     obtain⟨e1,e2,e3,e4,e5⟩:=h.pt k x x' r h2 h3;exact⟨e1,e2,e3,e4,ie e5 (by omega)⟩⟩
   have g2:ItB wr w.heap.size (.slice ao its'.length cap) its':=by
    unfold ItB;rw[b5.out];exact J
   exact eh (.slice ao its.length cap) results202 rfl rfl ⟨Y,ao,cap,its',by rw[b5.out],g2,bh,b0⟩
  |succ p=>
   obtain⟨wo,h0⟩: ∃wo,wo=wr:=⟨_,rfl⟩;subst h0;have g7:v=(p:Int):=by omega
   subst g7;clear hv;obtain⟨X,hX⟩: ∃X,its[p]?=some X:=⟨_,aG (by omega)⟩;have a5:its'[p]?=some X:=by rw[M.out.lo p (by omega)];exact hX
   have HX:=hid hX;have I:=hid a5;obtain⟨gw,rfl,b1,g3,c9⟩:=aE J (by omega);have q1:wo.cell? ⟨gw,p*5+1,none⟩=some (.int .u8 X.op.toNat):=c9 _ _ (bq (k:=1) a5 (by omega));obtain⟨ar,D⟩: ∃ar,az X.op=ar:=⟨_,rfl⟩;have g1:ar<=3:=by rw[<-D];unfold az;split;omega;split;omega;split<;>omega
   have b8:PtI (ox its) p ar [] (p+1):=by
    have r:=Du hX;refine⟨?_,?_,by omega,by rw[lW];omega⟩
    .simp only[eK,r,List.nil_append,List.length_nil,Nat.sub_zero,D]
    .rw[mD r];simp only[List.length_nil,Nat.sub_zero,D]
   have f1:=hid b8;have Z:=λW=>lV X.op W
   rw[D]at Z;have P:=hid Z;have f3:(wo.alloc (.cells #[] 3)).ownsRow wo.heap.size 3 1 (.slice (some ⟨wo.heap.size,0,none⟩) 0 0) ([]:List Nat).length (gL []):=⟨rfl,Or.inr ⟨wo.heap.size,0,#[],rfl,bP _,aO wo _,by simp,by unfold maxLen;omega,rfl,rfl⟩⟩;have j1:(p:Int)<(its.length:Int):=by omega
   have i6:(0:Int)<=(p:Int):=by omega
   clear hX a5 b8 Z D c9;go_wp2_with fail
   go_loopg [6,7] ar (λmm ps pv wq=> ∃(al:Option Addr) (cl:Nat) (l:List Nat) (k:Nat),ps= .slice al l.length cl/\pv= .int .i64 k/\k<=its.length/\l.length<=ar/\l.length+mm<=ar/\ar<=l.length+mm/\wq.ownsRow wo.heap.size 3 1 (.slice al l.length cl) l.length (gL l)/\B_ wo wq/\wo.heap.size<=wq.heap.size/\Hid (PtI (ox its) p ar l k))
   case atStart=>exact⟨_,0,[],p+1,rfl,by simp,by omega,by simp,by simp,by simp,f3,aa _ _ _,by simp,f1⟩
   case round=>
    obtain⟨al,cl,l,k,rfl,rfl,hk,i2,i3,i4,z,c,j4,HP⟩:=hrel;have q1q:=c.kc q1 b1;obtain⟨hl,L⟩ |hl| ⟨hl,L⟩:=(by omega:(l.length<ar/\k<its.length)\/(¬l.length<ar)\/(l.length<ar/\ ¬k<its.length))
    .have e7:(l.length:Int)<(ar:Int):=by omega
     have b3:(k:Int)<(its.length:Int):=by omega
     have j0:=HP.out.gt;have a6:=M.out.hi k (by omega) L;have f:=ag a4 c (λ_ _ h=>h);obtain⟨gb',b,b9,c8,i⟩:=aE f (by omega);have m:a.heap.size=gb':=by injection b with h;injection h with h
     subst m;have b6:=hid (HP.out.next hl (by rw[lW];exact L));have e0:aR (ox its) k<=its.length:=by have:=um (t:=ox its) (k:=k) (by rw[lW];omega);rw[lW]at this;exact this
     obtain⟨e,he⟩: ∃e,aR (ox its) k=e:=⟨_,rfl⟩;rw[he]at a6 b6 e0;have c1:=i _ _ (qa a6);clear i he a6 b;go_wp2_with fail;refine(P.out wr).mono ?_;rintro en wx ⟨rfl,n⟩;rw[n];clear n wx;obtain⟨i0,g4,h4,h5,h7⟩:=info_parts vU;go_wp2_with (at_builtin;refine wpList_append_lies _ rfl _ _ _ rfl wo.heap.size 3 i0 _ 1 8 (by kernel_rfl) g4 h4 h5 h7 rfl (by omega) _ l.length (gL l) rfl (z.alloc _) ⟨wr.heap.size,0,none⟩ 1 1 [.int .i64 k] rfl rfl (iu (cs:=#[.int .i64 k]) (t:=3) (fr:=(0,0)) (aO wr _)) (by simp[Value.oneCell']) (by omega) (by unfold maxLen;omega) (by omega) (by simp;omega) (wr.heap.size+1) (by simp) ?_)
     intro gg cap3 w5 a1 a0 i1 g5;have f6:But (λk'=>(Value.slice al l.length cl).ownBlock=some k') wr w5:=(aa _ _ _).trans (a8 a0);have A:B_ wo w5:=c.next f6 (λk' hk' h=>absurd (aw z k' h) (by omega));have c5:=(A.cell (p:=⟨a.heap.size,k,none⟩) (by omega) (λh=>h)).trans ((c.cell (p:=⟨a.heap.size,k,none⟩) (by omega) (λh=>h)).symm.trans c1);have h8:=A.size;clear c1;go_wp2_with fail
     go_roundg (ar-(l.length+1))
     case measure=>omega
     case rel=>exact⟨some ⟨gg,0,none⟩,cap3,l++ [k],e,by simp,rfl,e0,by simp;omega,by simp;omega,by simp;omega,by rw[aN,Ao];exact a1,A,h8,b6⟩
    .have e7: ¬(l.length:Int)<(ar:Int):=by omega
     have hD:=HP.out.done (Or.inl hl);have Q:=hid hD;have y:wr.ownsRow w.heap.size 219 5 (.slice (some ⟨gw,0,none⟩) its.length cap) its.length (ck its'):=ag J c (λ_ _ h=>h);have f:=ag a4 c (λ_ _ h=>h);have b2:gw<a.heap.size:=aY a2 gw rfl;obtain⟨gq,F,e8,f0,E⟩:=aE y (by omega);have G:gw=gq:=by injection F with h;injection h with h
     subst G;obtain⟨gb',b,b9,c8,i⟩:=aE f (by omega);have m:a.heap.size=gb':=by injection b with h;injection h with h
     subst m;have c4:wr.cell? ⟨gw,p*5+4,none⟩=some (.slice X.pa X.pn X.pc):=E _ _ (bq (k:=4) I.out (by omega));have f4:=eA y (p*5+4);obtain⟨ob,H⟩: ∃ob,bh[p]?=some ob:=⟨_,aG (by rw[M.out.blen];omega)⟩;have cb:=i _ _ (qa H);have fb:=eA f p;have s:=eI y (p*5+4) (.slice al l.length cl);rw[oz I.out]at s;have a3:=ag s (aj _ a.heap.size p (.int .i64 k)) (λg hg h=>by simp[Value.ownBlock]at hg;omega);have B:=ag f (aj wr gw (p*5+4) (.slice al l.length cl)) (λg hg h=>by simp[Value.ownBlock]at hg;omega);have C:=eI B p (.int .i64 k);rw[vV]at C;have d:But (λj=>j=gw\/j=a.heap.size) wr ((wr.setCell ⟨gw,p*5+4,none⟩ (.slice al l.length cl)).setCell ⟨a.heap.size,p,none⟩ (.int .i64 k)):=((aj _ _ _ _).mono (λ_ _ h=>Or.inl h)).trans ((aj _ _ _ _).mono (λ_ _ h=>Or.inr h))
     have T:B_ w ((wr.setCell ⟨gw,p*5+4,none⟩ (.slice al l.length cl)).setCell ⟨a.heap.size,p,none⟩ (.int .i64 k)):=(Y.trans c).next d (λj hj h=>by omega);have h9:=d.size
     have S:Hid (WpI ((wr.setCell ⟨gw,p*5+4,none⟩ (.slice al l.length cl)).setCell ⟨a.heap.size,p,none⟩ (.int .i64 k)) (a.heap.size+1) its (its'.set p {X with pa:=al,pn:=l.length,pc:=cl}) (bh.set p k) p):=by
      have h:=M.out;have b4:p<its'.length:=by rw[h.len];omega
      refine⟨by rw[List.length_set];exact h.len,by rw[List.length_set];exact h.blen,λj hj=> ?_,λj hj1 hj2=> ?_,λj x x' hj1 hj2 hj3=> ?_⟩
      .rw[List.getElem?_set_ne (by omega)];exact h.lo j (by omega)
      .by_cases hjp:p=j
       .subst hjp;rw[List.getElem?_set_self (by rw[h.blen];omega),Q.out.2]
       .rw[List.getElem?_set_ne hjp];exact h.hi j (by omega) hj2
      .by_cases hjp:p=j
       .subst hjp;rw[HX.out]at hj2;rw[List.getElem?_set_self b4]at hj3
        cases hj2
        cases hj3
        refine⟨rfl,rfl,rfl,rfl,?_⟩;have r:=ie (ag z d (λg hg h=>by have:=aw z g hg;omega)) (show a.heap.size+1<=wo.heap.size from by omega);rw[Q.out.1]at r;rw[<-Q.out.1]at r⊢;exact r
       .rw[List.getElem?_set_ne hjp]at hj3;obtain⟨e1,e2,e3,e4,e5⟩:=h.pt j x x' (by omega) hj2 hj3;have e6:=ag e5 c (λ_ _ h=>h);exact⟨e1,e2,e3,e4,ag e6 d (λg hg h=>by have:=aw e6 g hg;omega)⟩
     clear E i F b s B H hD;go_wp2_with fail;refine(P.out wr).mono ?_;rintro en wx ⟨rfl,n⟩;rw[n];clear n wx;go_wp2_with fail
     go_roundg p
     case measure=>omega
     case rel=>exact⟨_,p,_,_,rfl,rfl,by omega,by omega,by omega,a3,C,T,by omega,S⟩
    .have e7:(l.length:Int)<(ar:Int):=by omega
     have b3: ¬(k:Int)<(its.length:Int):=by omega
     have hD:=HP.out.done (Or.inr (by rw[lW];exact L));have Q:=hid hD;have y:wr.ownsRow w.heap.size 219 5 (.slice (some ⟨gw,0,none⟩) its.length cap) its.length (ck its'):=ag J c (λ_ _ h=>h);have f:=ag a4 c (λ_ _ h=>h);have b2:gw<a.heap.size:=aY a2 gw rfl;obtain⟨gq,F,e8,f0,E⟩:=aE y (by omega);have G:gw=gq:=by injection F with h;injection h with h
     subst G;obtain⟨gb',b,b9,c8,i⟩:=aE f (by omega);have m:a.heap.size=gb':=by injection b with h;injection h with h
     subst m;have c4:wr.cell? ⟨gw,p*5+4,none⟩=some (.slice X.pa X.pn X.pc):=E _ _ (bq (k:=4) I.out (by omega));have f4:=eA y (p*5+4);obtain⟨ob,H⟩: ∃ob,bh[p]?=some ob:=⟨_,aG (by rw[M.out.blen];omega)⟩;have cb:=i _ _ (qa H);have fb:=eA f p;have s:=eI y (p*5+4) (.slice al l.length cl);rw[oz I.out]at s;have a3:=ag s (aj _ a.heap.size p (.int .i64 k)) (λg hg h=>by simp[Value.ownBlock]at hg;omega);have B:=ag f (aj wr gw (p*5+4) (.slice al l.length cl)) (λg hg h=>by simp[Value.ownBlock]at hg;omega);have C:=eI B p (.int .i64 k);rw[vV]at C;have d:But (λj=>j=gw\/j=a.heap.size) wr ((wr.setCell ⟨gw,p*5+4,none⟩ (.slice al l.length cl)).setCell ⟨a.heap.size,p,none⟩ (.int .i64 k)):=((aj _ _ _ _).mono (λ_ _ h=>Or.inl h)).trans ((aj _ _ _ _).mono (λ_ _ h=>Or.inr h))
     have T:B_ w ((wr.setCell ⟨gw,p*5+4,none⟩ (.slice al l.length cl)).setCell ⟨a.heap.size,p,none⟩ (.int .i64 k)):=(Y.trans c).next d (λj hj h=>by omega);have h9:=d.size
     have S:Hid (WpI ((wr.setCell ⟨gw,p*5+4,none⟩ (.slice al l.length cl)).setCell ⟨a.heap.size,p,none⟩ (.int .i64 k)) (a.heap.size+1) its (its'.set p {X with pa:=al,pn:=l.length,pc:=cl}) (bh.set p k) p):=by
      have h:=M.out;have b4:p<its'.length:=by rw[h.len];omega
      refine⟨by rw[List.length_set];exact h.len,by rw[List.length_set];exact h.blen,λj hj=> ?_,λj hj1 hj2=> ?_,λj x x' hj1 hj2 hj3=> ?_⟩
      .rw[List.getElem?_set_ne (by omega)];exact h.lo j (by omega)
      .by_cases hjp:p=j
       .subst hjp;rw[List.getElem?_set_self (by rw[h.blen];omega),Q.out.2]
       .rw[List.getElem?_set_ne hjp];exact h.hi j (by omega) hj2
      .by_cases hjp:p=j
       .subst hjp;rw[HX.out]at hj2;rw[List.getElem?_set_self b4]at hj3
        cases hj2
        cases hj3
        refine⟨rfl,rfl,rfl,rfl,?_⟩;have r:=ie (ag z d (λg hg h=>by have:=aw z g hg;omega)) (show a.heap.size+1<=wo.heap.size from by omega);rw[Q.out.1]at r;rw[<-Q.out.1]at r⊢;exact r
       .rw[List.getElem?_set_ne hjp]at hj3;obtain⟨e1,e2,e3,e4,e5⟩:=h.pt j x x' (by omega) hj2 hj3;have e6:=ag e5 c (λ_ _ h=>h);exact⟨e1,e2,e3,e4,ag e6 d (λg hg h=>by have:=aw e6 g hg;omega)⟩
     clear E i F b s B H hD;go_wp2_with fail;refine(P.out wr).mono ?_;rintro en wx ⟨rfl,n⟩;rw[n];clear n wx;go_wp2_with fail
     go_roundg p
     case measure=>omega
     case rel=>exact⟨_,p,_,_,rfl,rfl,by omega,by omega,by omega,a3,C,T,by omega,S⟩
theorem un (y:Ins):az (co y).op=az y.op:=by
 unfold co
 split
 .rename_i h
  simp only[aQ,dk,dg]at h
  show az 107=az y.op
  unfold az;rw[if_neg (show¬y.op.toNat=105 from by omega),if_neg (show¬ [43,45,42,47,60,61,101,112,99,44,111].contains y.op.toNat=true from by simp;omega),if_neg (show¬ [115,103,120,119].contains y.op.toNat=true from by simp;omega)]
  rfl
 .rfl
theorem Dv: ∀{t u:List Ins} {m:Nat},t.map (λx=>az x.op)=u.map (λx=>az x.op)->sk m t=sk m u:=by
 intro t
 induction t with
 |nil=>intro u m h;cases u with|nil=>rfl|cons y u=>simp at h
 |cons x t ih=>
  intro u m h
  cases u with
  |nil=>simp at h
  |cons y u=>
   simp at h
   cases m with
   |zero=>rfl
   |succ m=>simp only[sk,h.1];rw[ih h.2]
theorem Cl (is:List Ins):(ox (is.map co)).map (λx=>az x.op)=is.map (λx=>az x.op):=by
 simp only[ox,List.map_map]
 apply List.map_congr_left
 intro y _;exact un y
theorem Ap {t u:List Ins} (h:t.map (λx=>az x.op)=u.map (λx=>az x.op)) (k:Nat):aR t k=aR u k:=by
 unfold aR;rw[Dv (u:=u.drop k) (by simp only[List.map_drop,h])]
theorem Aq {t u:List Ins} (h:t.map (λx=>az x.op)=u.map (λx=>az x.op)): ∀{n k:Nat},de t n k=de u n k:=by
 have hl:t.length=u.length:=by have:=congrArg List.length h;simpa using this
 intro n
 induction n with
 |zero=>intro k;rfl
 |succ n ih=>intro k;simp only[de,hl,Ap h,ih]
theorem Ar {t u:List Ins} (h:t.map (λx=>az x.op)=u.map (λx=>az x.op)) (k:Nat):eK t k=eK u k:=by
 have a:(t.map (λx=>az x.op))[k]?=(u.map (λx=>az x.op))[k]?:=by rw[h]
 rw[cV,cV]at a;unfold eK
 cases ht:t[k]? with
 |none=>rw[ht]at a;cases hu:u[k]? with
  |none=>rfl
  |some y=>rw[hu]at a;cases a
 |some x=>rw[ht]at a;cases hu:u[k]? with
  |none=>rw[hu]at a;cases a
  |some y=>
   rw[hu]at a;simp at a;simp only[a];exact Aq h
structure mG (w:World) (base:Nat) (its:List XIt) (is:List Ins):Prop where
 len:its.length=is.length
 at': ∀k y x,is[k]?=some y->its[k]?=some x->x.place=(co y).place/\x.op=(co y).op/\x.cls=(co y).cls/\x.num=(co y).num/\w.ownsRow base 3 1 (.slice x.pa x.pn x.pc) (eK is k).length (gL (eK is k))
theorem mG.mono {w:World} {base base':Nat} {its:List XIt} {is:List Ins} (h:mG w base its is) (hb:base'<=base):mG w base' its is:=
 ⟨h.len,λk y x hy hx=>by
  obtain⟨a,b,c,d,e⟩:=h.at' k y x hy hx;exact⟨a,b,c,d,ie e hb⟩⟩
theorem WpI.nodes {w:World} {base:Nat} {is:List Ins} {its':List XIt} {bh:List Nat} (h:WpI w base (is.map co) its' bh 0):mG w base its' is:=by
 refine⟨by rw[h.len];simp,λk y x hy hx=> ?_⟩;have a:=h.pt k (co y) x (by omega) (by simp[hy]) hx;rw[Ar (Cl is)]at a;exact a
def nj (s:ByteArray) (cs:List Cls) (ns nl i:Nat) (bad:Bool):Except Nat (List Ins×Nat):=if bad=true then .error i else cK s cs ns nl 24 [] 1 i
def NdC (s:ByteArray) (cs:List Cls) (ns nl:Nat) (R:Except Nat (List Ins×Nat)) (its:List XIt) (m j:Nat) (bad:Bool):Prop:=
 (bad=false/\ ∃is,its=is.map co/\cK s cs ns nl (24-is.length) is m j=R)\/(bad=true/\R= .error j)
section
variable {s:ByteArray} {cs:List Cls} {ns nl:Nat} {R:Except Nat (List Ins×Nat)}
theorem NdC.start {i:Nat} {bad:Bool} (hR:nj s cs ns nl i bad=R):NdC s cs ns nl R [] 1 i bad:=by
 unfold nj at hR
 cases bad with
 |true=>exact Or.inr ⟨rfl,hR.symm⟩
 |false=>exact Or.inl ⟨rfl,[],rfl,hR⟩
theorem NdC.next {its:List XIt} {m j:Nat} (h:NdC s cs ns nl R its (m+1) j false) (hl:its.length<24) {x:XIt} {j':Nat} {bad':Bool} (hx:pe s cs ns nl j false x j' bad'):NdC s cs ns nl R (its++ [x]) (m+az x.op) j' bad':=by
 obtain⟨_,is,rfl,h⟩ | ⟨h,_⟩:=h
 .obtain⟨d,e⟩: ∃d,24-is.length=d+1:=⟨24-is.length-1,by simp at hl;omega⟩;rw[e]at h;simp only[cK]at h;obtain⟨b,y,a,c⟩ | ⟨b,a⟩:=hx
  .simp only[ul,dS,if_false]at a;rw[a]at h;refine Or.inl ⟨b,is++ [y],by simp[c],?_⟩;rw[show 24-(is++ [y]).length=d from by simp;omega,c,un];exact h
  .simp only[ul,dS,if_false]at a;rw[a]at h;exact Or.inr ⟨b,h.symm⟩
 .cases h
theorem NdC.full {its:List XIt} {m j:Nat} {bad:Bool} (h:NdC s cs ns nl R its (m+1) j bad) (hl:bad=true\/ ¬its.length<24):R= .error j:=by
 obtain⟨a,is,rfl,h⟩ | ⟨_,h⟩:=h
 .obtain hl|hl:=hl
  .rw[a]at hl;cases hl
  .rw[show 24-is.length=0 from by simp at hl;omega]at h;exact h.symm
 .exact h
theorem NdC.fin {its:List XIt} {j:Nat} {bad:Bool} (h:NdC s cs ns nl R its 0 j bad):(bad=false/\ ∃is,its=is.map co/\R= .ok (is,j))\/(bad=true/\R= .error j):=by
 obtain⟨h1,is,h2,h⟩ |h:=h
 .rw[ka]at h;exact Or.inl ⟨h1,is,h2,h.symm⟩
 .exact Or.inr h
end
def FY (s:ByteArray) (SC:List Cls) (a0 a1:Option Addr) (ng nl cap0 cap1:Nat) (v2:RdV) (b sz:Nat) (R:Except Nat (List Ins×Nat)) (en:Ending) (w':World):Prop:=
 ∃ao cap its j bad',en= .returned (.slice ao (List.length its) cap)/\XrB w' b s j bad' (.slice a0 SC.length cap0) (.slice a1 ng cap1) v2/\ItB w' sz (.slice ao (List.length its) cap) its/\its.length<=24/\
  ((bad'=false/\ ∃is,R= .ok (is,j)/\mG w' sz its is)\/(bad'=true/\R= .error j))
theorem ri (b base:Nat) (s:ByteArray) (i:Nat) (bad:Bool) (SC:List Cls) (a0 a1 al:Option Addr) (ng nl cap0 cap1 capl:Nat) (v2:RdV) (w:World)
  (hG:bad=true\/(WfC SC/\TcV w base (.slice a0 SC.length cap0) (SC.map toX))) (hnc:SC.length<=4) (hng:ng<=3) (hnl:nl<=10) (hs:s.size<=2000)
  (hR:XrB w b s i bad (.slice a0 SC.length cap0) (.slice a1 ng cap1) v2) (hv:v2.hl= .slice al nl capl) (hb:b<base):
  Calls prog 146 #[.pointer (some ⟨b,0,none⟩)] w λen w'=>But (· =b) w w'/\FY s SC a0 a1 ng nl cap0 cap1 v2 b w.heap.size (nj s SC ng nl i bad) en w':=by
 obtain⟨R,X⟩: ∃R,nj s SC ng nl i bad=R:=⟨_,rfl⟩;rw[X];have c8:=hid (NdC.start X);clear X;obtain⟨i0,e6,f1,f2,f3⟩:=info_parts lQ;have f5:=hR.lt;have HG:=hid hG;have b9:=hid (λ(w':World) (i':Nat) (bad':Bool) (h:But (· =b) w w') (hg:bad'=true\/(WfC SC/\TcV w base (.slice a0 SC.length cap0) (SC.map toX))) (hr:XrB w' b s i' bad' (.slice a0 SC.length cap0) (.slice a1 ng cap1) v2)=>An b base s i' SC a0 a1 al ng nl cap0 cap1 capl v2 w' bad' (hg.imp id (λq=>⟨q.1,q.2.but h (λg e cur _ _ hg he=>by omega)⟩)) hnc hng hnl hs hr hv hb);clear hG;have e0:=ItB.empty w;have e1:=hR.but (aa (λ_=>False) w (.cells #[] 219)) (λh=>h)
 have c9:But (· =b) w (w.alloc (.cells #[] 219)):=aa _ _ _
 go_in
 go_wp2_with fail
 go_loopg [3,4] 24 (λmm vs ms wr=> ∃(ao:Option Addr) (cap j:Nat) (bad':Bool) (its:List XIt) (m:Nat),vs= .slice ao its.length cap/\ms= .int .i64 m/\m<=100/\its.length+mm<=24/\24<=its.length+mm/\m<=1+3*its.length/\But (· =b) w wr/\XrB wr b s j bad' (.slice a0 SC.length cap0) (.slice a1 ng cap1) v2/\ItB wr w.heap.size (.slice ao its.length cap) its/\Hid (bad'=true\/(WfC SC/\TcV w base (.slice a0 SC.length cap0) (SC.map toX)))/\Hid (NdC s SC ng nl R its m j bad'))
 case atStart=>exact⟨_,0,i,bad,[],1,rfl,rfl,by omega,by simp,by simp,by simp,c9,e1,e0,HG,c8⟩
 case round=>
  obtain⟨ao,cap,j,bad',its,m,rfl,rfl,hm,f6,g0,g1,D,B,v,b0,J⟩:=hrel;have f0:=D.size;have f4:=B.lt;have h4:=B.c4;have h3:=B.c3
  cases m with
  |zero=>
   have hz: ¬(0:Int)<0:=by omega
   have HF:=hid J.out.fin;clear J;go_wp2_with fail;have z:ItB wr w.heap.size (.slice ao its.length cap) its:=ag v (bf (λk=>k=b) wr) (λg hg h=>by have:=aw v g hg;omega);have b6:=((bf (λk=>k=b) wr)).size;refine(kB w.heap.size its ao cap wr (by omega) z).mono ?_;rintro en O ⟨l,d,c,a,b2,rfl,p,f⟩;have P:=hid f;have n:But (· =b) w O:=(D.trans (bf (λk=>k=b) wr)).next l (λ_ _ h=>h.elim);have H:=(B).but l (λh=>h);have r:ItB O w.heap.size (.slice d a.length c) a:=ie p (by omega);have F:a.length<=24:=by have:=f.len;omega
   have Z:w.heap.size<=(wr).heap.size:=by omega
   clear f p;go_wp2_with fail
   exact eh (.slice d a.length c) results146 rfl rfl ⟨n,d,c,a,_,_,rfl,H,r,F,by
     obtain⟨h1,is,h2,h3⟩ |h:=HF.out
     .subst h2;exact Or.inl ⟨h1,is,h3,P.out.nodes.mono Z⟩
     .exact Or.inr h⟩
  |succ m=>
   have hz:(0:Int)<((m+1:Nat):Int):=by omega
   by_cases hlt:its.length<24
   .have e7:(its.length:Int)<24:=by omega
    cases bad' with
    |false=>
     have b1:=hid (λx j' bad'=>J.out.next hlt (x:=x) (j':=j') (bad':=bad'));clear J;go_wp2_with fail;refine(b9.out wr j false D b0.out B).mono ?_;rintro en I ⟨Q,y,j4,E,rfl,e2,b3⟩;have a6:=hid (b1.out y j4 E b3)
     have b8:Hid (E=true\/(WfC SC/\TcV w base (.slice a0 SC.length cap0) (SC.map toX))):=by
      refine hid (Or.inr ?_);obtain h|h:=b0.out
      .cases h
      .exact h
     have L:But (· =b) w I:=D.trans Q;have G:I.ownsRow w.heap.size 219 5 (.slice ao its.length cap) its.length (ck its):=ag v Q (λg hg h=>by have:=aw v g hg;omega);have M:=aw G;have g2:=L.size;have g3:=Q.size;clear b3 b1 h4 h3;unfold itV;go_wp2_with (at_builtin;refine wpList_append_lies _ rfl _ _ _ rfl w.heap.size 219 i0 _ 5 48 (by kernel_rfl) e6 f1 f2 f3 rfl (by omega) _ its.length (ck its) rfl ((G.alloc _).alloc _) ⟨I.heap.size+1,0,none⟩ 1 1 [.int .i64 y.place,.int .u8 y.op.toNat,.int .u8 y.cls.toNat,.int .i64 y.num,.slice y.pa y.pn y.pc] rfl rfl (iu (cs:=#[.int .i64 y.place,.int .u8 y.op.toNat,.int .u8 y.cls.toNat,.int .i64 y.num,.slice y.pa y.pn y.pc]) (t:=219) (fr:=(0,0)) (aB (by simp) _)) (by simp[Value.oneCell']) (by omega) (by unfold maxLen;omega) (by omega) (by simp;omega) (I.heap.size+2) (by simp) ?_)
     intro gg cap3 w5 Y C e5 e8;have b4:But (λk'=>(Value.slice ao its.length cap).ownBlock=some k') I w5:=((aa _ _ _).trans (aa _ _ _)).trans (a8 C);have a2:But (· =b) w w5:=L.next b4 (λk' hk' h=>absurd (M k' h) (by omega));have e3:=e2.but b4 (λh=>by have:=M _ h;omega)
     have a3:ItB w5 w.heap.size (.slice (some ⟨gg,0,none⟩) (its++ [y]).length cap3) (its++ [y]):=by
      unfold ItB;rw[aN,jv];exact Y
     have a5:w5.heap[I.heap.size]?=some (.cells #[.int .i64 y.place,.int .u8 y.op.toNat,.int .u8 y.cls.toNat,.int .i64 y.num,.slice y.pa y.pn y.pc] 219):=by
      have h1:((I.alloc (.cells #[.int .i64 y.place,.int .u8 y.op.toNat,.int .u8 y.cls.toNat,.int .i64 y.num,.slice y.pa y.pn y.pc] 219)).alloc (.cells #[.int .i64 y.place,.int .u8 y.op.toNat,.int .u8 y.cls.toNat,.int .i64 y.num,.slice y.pa y.pn y.pc] 219)).heap[I.heap.size]?=some (.cells #[.int .i64 y.place,.int .u8 y.op.toNat,.int .u8 y.cls.toNat,.int .i64 y.num,.slice y.pa y.pn y.pc] 219):=by
       rw[Below.heap_alloc _ _ _ (by simp)];exact aO I _
      exact((a8 C).block _ (ae h1) (λh=>by have:=aY G _ h;omega)).trans h1
     obtain⟨x0,x1,x2,x3,x4⟩:=dp a5;have a4:az y.op<=3:=by unfold az;split;omega;split;omega;split<;>omega
     have S:=lV y.op w5;obtain⟨ar,e4⟩: ∃ar,az y.op=ar:=⟨_,rfl⟩;rw[e4]at S a4 a6;have b7:=hid S;clear S C e5;go_wp2_with fail;refine b7.out.mono ?_;rintro en wx ⟨rfl,b5⟩;rw[b5];clear b5 wx x0 x1 x2 x3 x4;go_wp2_with fail
     go_roundg (24-(its.length+1))
     case measure=>omega
     case rel=>exact⟨some ⟨gg,0,none⟩,cap3,j4,E,its++ [y],m+ar,by simp,by simp;omega,by omega,by simp;omega,by simp;omega,by simp;omega,a2,e3,a3,b8,a6⟩
    |true=>
     have hE:=J.out.full (Or.inl rfl);have HE:=hid hE;clear J hE;go_wp2_with fail;refine(kj b s j true _ _ v2 _ j B).mono ?_;rintro en w6 ⟨rfl,A,T⟩;go_wp2_with fail;have z:ItB w6 w.heap.size (.slice ao its.length cap) its:=ag v A (λg hg h=>by have:=aw v g hg;omega);have b6:=(A).size;refine(kB w.heap.size its ao cap w6 (by omega) z).mono ?_;rintro en O ⟨l,d,c,a,b2,rfl,p,f⟩;have P:=hid f;have n:But (· =b) w O:=(D.trans A).next l (λ_ _ h=>h.elim);have H:=(T).but l (λh=>h);have r:ItB O w.heap.size (.slice d a.length c) a:=ie p (by omega);have F:a.length<=24:=by have:=f.len;omega
     have Z:w.heap.size<=(w6).heap.size:=by omega
     clear f p;go_wp2_with fail;exact eh (.slice d a.length c) results146 rfl rfl ⟨n,d,c,a,_,_,rfl,H,r,F,Or.inr ⟨rfl,by simpa using HE.out⟩⟩
   .have e7: ¬(its.length:Int)<24:=by omega
    have hE:=J.out.full (Or.inr hlt);have HE:=hid hE;clear J hE;go_wp2_with fail;refine(kj b s j bad' _ _ v2 _ j B).mono ?_;rintro en w6 ⟨rfl,A,T⟩;go_wp2_with fail;have z:ItB w6 w.heap.size (.slice ao its.length cap) its:=ag v A (λg hg h=>by have:=aw v g hg;omega);have b6:=(A).size;refine(kB w.heap.size its ao cap w6 (by omega) z).mono ?_;rintro en O ⟨l,d,c,a,b2,rfl,p,f⟩;have P:=hid f;have n:But (· =b) w O:=(D.trans A).next l (λ_ _ h=>h.elim);have H:=(T).but l (λh=>h);have r:ItB O w.heap.size (.slice d a.length c) a:=ie p (by omega);have F:a.length<=24:=by have:=f.len;omega
    have Z:w.heap.size<=(w6).heap.size:=by omega
    clear f p;go_wp2_with fail;exact eh (.slice d a.length c) results146 rfl rfl ⟨n,d,c,a,_,_,rfl,H,r,F,Or.inr ⟨rfl,by rw[HE.out];simp⟩⟩
end
end Go.Proofs.YtpfkkmacakjmbaaGreatDoor
