import Derived.Test.YtpfkkmacakjmbaaGreatDoorP10
import Derived.Test.YtpfkkmacakjmbaaGreatDoorP04
set_option maxRecDepth 100000
set_option maxHeartbeats 6400000
set_option linter.all false
namespace Go.Proofs.YtpfkkmacakjmbaaGreatDoor
open Proofs.Tryz
section
open Go Go.RowKit Sp
attribute [local go_sem ↓] eF eG
def bQ (x:Ins):XIt:=if aY x.op=true then⟨x.pos,107,45,x.b,none,0,0⟩else aJ x
def tN (s:ByteArray) (cs:List Cls) (ns nl i:Nat) (bad:Bool):Except Nat (Ins×Nat):=if bad=true then .error i else my s cs ns nl i
def oU (s:ByteArray) (cs:List Cls) (ns nl i:Nat) (bad:Bool) (x:XIt) (j:Nat) (bad':Bool):Prop:=
 (bad'=false/\ ∃y,tN s cs ns nl i bad= .ok (y,j)/\x=bQ y)\/(bad'=true/\tN s cs ns nl i bad= .error j)
section
variable {s:ByteArray} {cs:List Cls} {ns nl i:Nat}
theorem Dq {bad:Bool} {x:XIt} (h:bad=true\/s.size<=i):oU s cs ns nl i bad x i true:=by
 right
 refine⟨rfl,?_⟩;unfold tN
 cases bad with
 |true=>rfl
 |false=>
  obtain h|h:=h
  .cases h
  .simp only[dx,if_false];unfold my;rw[qh h]
   rfl
theorem EK {x:XIt} (h:dm.contains (pk s i).toNat=false):oU s cs ns nl i false x i true:=by
 right
 refine⟨rfl,?_⟩;simp only[tN,dx,if_false,my,h]
theorem Ae {c:UInt8} (hc:pk s i=c) (hl:dm.contains c.toNat=true) (hd:aY c=false) (h:dL s cs ns nl c.toNat (i+1)= .ok (0,0,i+1)) (hn: ¬(c.toNat=110\/c.toNat=120\/c.toNat=103\/c.toNat=112\/c.toNat=99)):oU s cs ns nl i false ⟨i,c,45,0,none,0,0⟩ (i+1) false:=by
 left
 refine⟨rfl,⟨c,0,0,i⟩,?_,?_⟩
 .simp only[tN,dx,if_false,my,hc,hl,if_true,h,hd]
 .unfold bQ aJ;simp only[hd,dx,if_false,if_neg hn]
theorem Af {c:UInt8} (hc:pk s i=c) (hl:dm.contains c.toNat=true) (hd:aY c=true) (h:dL s cs ns nl c.toNat (i+1)= .ok (0,0,i+1)):oU s cs ns nl i false ⟨i,107,45,c.toNat-48,none,0,0⟩ (i+1) false:=by
 left
 refine⟨rfl,⟨c,0,c.toNat-48,i⟩,?_,?_⟩
 .simp only[tN,dx,if_false,my,hc,hl,if_true,h,hd]
 .unfold bQ;simp only[hd,if_true]
theorem Dr {c:UInt8} (hc:pk s i=c) (h:c.toNat=108\/c.toNat=115\/c.toNat=110\/c.toNat=120\/c.toNat=103\/c.toNat=112\/c.toNat=99) {x:XIt} {j:Nat} {bad':Bool} (hI:jm s cs ns nl i false x j bad'):oU s cs ns nl i false x j bad':=by
 have hl:df.contains c.toNat=true:=by rcases h with h|h|h|h|h|h|h<;>(rw[h];decide)
 have d:dm.contains c.toNat=true:=by rcases h with h|h|h|h|h|h|h<;>(rw[h];decide)
 have e:aY c=false:=by rcases h with h|h|h|h|h|h|h<;>simp[aY,h]
 unfold jm rx oG at hI;unfold oU tN my;simp only[dx,if_false,hc,hl,d,if_true,e]at hI⊢;obtain⟨b,y,a,f⟩ | ⟨b,a⟩:=hI
 .left
  refine⟨b,y,?_,?_⟩
  .rw[<-a]
   cases dL s cs ns nl c.toNat (i+1)<;>rfl
  .rw[f]
   have g:y.op=c:=by
    cases ho:dL s cs ns nl c.toNat (i+1)with
    |error q=>rw[ho]at a;cases a
    |ok q=>rw[ho]at a;cases a;rfl
   unfold bQ;rw[g,e];simp
 .right
  refine⟨b,?_⟩;rw[<-a]
  cases dL s cs ns nl c.toNat (i+1)<;>rfl
theorem BW {c:UInt8} {x:XIt} {j:Nat} {bad':Bool} (hnc:cs.length<=4) (hpc:pk s i=c) (hn: ¬(c.toNat=114\/c.toNat=122\/c.toNat=43\/c.toNat=45\/c.toNat=42\/c.toNat=47\/c.toNat=60\/c.toNat=61\/c.toNat=101\/c.toNat=119\/c.toNat=44\/c.toNat=105\/c.toNat=111\/c.toNat=48\/c.toNat=49\/c.toNat=50\/c.toNat=51\/c.toNat=52\/c.toNat=53\/c.toNat=54\/c.toNat=55\/c.toNat=56\/c.toNat=57))
  (h:gy s cs ns nl i c (i+1) false=(x,j,bad')):oU s cs ns nl i false x j bad':=by
 by_cases h1:c.toNat=108\/c.toNat=115\/c.toNat=110\/c.toNat=120\/c.toNat=103\/c.toNat=112\/c.toNat=99
 .exact Dr hpc h1 (uW hnc hpc (by omega) h)
 .unfold gy at h;rw[if_neg (by omega),if_neg (by omega),if_neg (by omega),if_neg (by omega)]at h;obtain⟨rfl,rfl,rfl⟩:=(by simpa using h:_/\_/\_)
  try simp only[dx,if_false]
  refine EK ?_;rw[hpc];simp only[dm,List.contains_eq_mem,List.mem_cons,List.not_mem_nil,or_false,decide_eq_false_iff_not];omega
end
theorem lW (c:UInt8) (w:World):
  Calls prog 200 #[.int .u8 c.toNat] w λen w'=>en= .returned (.int .i64 (ay c))/\w'=w:=by
 by_cases h:c.toNat=103\/c.toNat=120\/c.toNat=115\/c.toNat=119\/c.toNat=43\/c.toNat=45\/c.toNat=42\/c.toNat=47\/c.toNat=60\/c.toNat=61\/c.toNat=101\/c.toNat=99\/c.toNat=112\/c.toNat=44\/c.toNat=111\/c.toNat=105
 .obtain h|h|h|h|h|h|h|h|h|h|h|h|h|h|h|h:=h
  all_goals
   have E: ∀j:Int,((c.toNat:Int)==j)=_:=λj=>congrArg (λn:Nat=>((n:Int)==j)) h
   rw[show ay c=_ from by unfold ay;rw[h]];clear h
   go_in
   go_wp2_with fail;go_ret;exact⟨rfl,rfl⟩
 .simp only[not_or]at h;obtain⟨b,k,g,i,m,q,l,r,s,t,a,v,f,p,e,d⟩:=h;rw[show ay c=0 from by simp[ay,b,k,g,i,m,q,l,r,s,t,a,v,f,p,e,d]];have E: ∀j:Nat,c.toNat≠j->((c.toNat:Int)==(j:Int))=false:=λj h=>by rw[fh];omega
  have y:=E 103 b;have F:=E 120 k;have C:=E 115 g;have D:=E 119 i;have H:=E 43 m;have J:=E 45 q;have G:=E 42 l;have L:=E 47 r;have M:=E 60 s;have O:=E 61 t;have x:=E 101 a;have P:=E 99 v;have B:=E 112 f;have I:=E 44 p;have A:=E 111 e;have z:=E 105 d;clear E b k g i m q l r s t a v f p e d
  go_in
  go_wp2_with fail;go_ret;exact⟨rfl,rfl⟩
section
variable (b base:Nat) (s:ByteArray) (i:Nat) (SC:List Cls) (a0 a1 al:Option Addr) (ng nl cap0 cap1 capl:Nat) (v2:RdV) (w:World)
theorem EL (c:UInt8) (hc:c.toNat=114\/c.toNat=122\/c.toNat=43\/c.toNat=45\/c.toNat=42\/c.toNat=47\/c.toNat=60\/c.toNat=61\/c.toNat=101\/c.toNat=119\/c.toNat=44\/c.toNat=105\/c.toNat=111) (hlt:i<s.size) (hpc:pk s i=c) (hnc:SC.length<=4) (hng:ng<=3) (hnl:nl<=10) (hs:s.size<=2000)
  (hR:XrB w b s i false (.slice a0 SC.length cap0) (.slice a1 ng cap1) v2) (hv:v2.hl= .slice al nl capl):
  Calls prog 199 #[.pointer (some ⟨b,0,none⟩)] w λen w'=>But (· =b) w w'/\ ∃x j bad',en= .returned (itV x)/\XrB w' b s j bad' (.slice a0 SC.length cap0) (.slice a1 ng cap1) v2/\oU s SC ng nl i false x j bad':=by
 obtain hc|hc|hc|hc|hc|hc|hc|hc|hc|hc|hc|hc|hc:=hc
 all_goals
  have y:=hid hc;have E: ∀j:Int,((c.toNat:Int)==j)=_:=λj=>congrArg (λn:Nat=>((n:Int)==j)) hc
  clear hc;have F:=hR.lt;have G:=hR.c3;obtain⟨m,r,t⟩:=dU w b F #[.int .i64 0,.int .u8 0,.int .u8 0,.int .i64 0,S_] #[.int .i64 i,.int .u8 0,.int .u8 45,.int .i64 0,S_] 219;have p:=hR.but ((ag (λ_=>False) w (.cells #[.int .i64 0,.int .u8 0,.int .u8 0,.int .i64 0,S_] 219)).trans (ag _ _ (.cells #[.int .i64 i,.int .u8 0,.int .u8 45,.int .i64 0,S_] 219))) (λh=>h);have g:=hid (iU.mk m r t);have f:=hid (bT b s i false _ _ v2 _ hs p);rw[jX hlt,hpc]at f;clear m p r t
  go_in
  go_wp2_with fail;refine f.out.mono ?_;rintro en w1 ⟨rfl,A,B⟩;have a:=g.out.next (by omega) (by omega) A;obtain⟨Z,q1,q2,q3,q4⟩:=bI a.item;obtain⟨M,O,P,Q,S⟩:=cI a.item;obtain⟨y0,y1,y2,y3,y4⟩:=bI a.box;obtain⟨T,g1,g2,X,Y⟩:=cI a.box;have q:=a.set1 (by omega) (by omega) (.int .u8 c.toNat);have C:=B.but (aq w1 (w.heap.size+1) 1 (.int .u8 c.toNat)) (by omega);have z:=hid q;clear a q g f G;have l:=hid (z.out);have D:=C;go_wp2_with fail;have e:=il l.out.box (.int .i64 i) (.int .u8 c.toNat) (.int .u8 45) (.int .i64 0) S_;have d:=jl (w1.setCell ⟨w.heap.size+1,1,none⟩ (.int .u8 c.toNat)) w.heap.size (.int .i64 i) (.int .u8 c.toNat) (.int .u8 45) (.int .i64 0) S_
  unfold tr at e d;revert e d;generalize (((((w1.setCell ⟨w.heap.size+1,1,none⟩ (.int .u8 c.toNat)).setCell ⟨w.heap.size,0,none⟩ (.int .i64 i)).setCell ⟨w.heap.size,1,none⟩ (.int .u8 c.toNat)).setCell ⟨w.heap.size,2,none⟩ (.int .u8 45)).setCell ⟨w.heap.size,3,none⟩ (.int .i64 0)).setCell ⟨w.heap.size,4,none⟩ S_=w9;intro e d;obtain⟨r0,H,I,J,L⟩:=bI e;exact cU (v:= .agg #[(.int .i64 i),(.int .u8 c.toNat),(.int .u8 45),(.int .i64 0),S_]) (by simp[results,results199,go_sem,r0,H,I,J,L]) rfl ⟨l.out.but.next d (λk hk h=>by omega),⟨i,c,45,0,none,0,0⟩,i+1,false,rfl,D.but d (by omega),Ae hpc (by rw[y.out];decide) (by simp[aY,y.out]) (by rw[y.out];rfl) (by rw[y.out];decide)⟩
theorem EM (c:UInt8) (d:Nat) (hc:d=0\/d=1\/d=2\/d=3\/d=4\/d=5\/d=6\/d=7\/d=8\/d=9) (m:c.toNat=48+d) (hlt:i<s.size) (hpc:pk s i=c) (hnc:SC.length<=4) (hng:ng<=3) (hnl:nl<=10) (hs:s.size<=2000)
  (hR:XrB w b s i false (.slice a0 SC.length cap0) (.slice a1 ng cap1) v2) (hv:v2.hl= .slice al nl capl):
  Calls prog 199 #[.pointer (some ⟨b,0,none⟩)] w λen w'=>But (· =b) w w'/\ ∃x j bad',en= .returned (itV x)/\XrB w' b s j bad' (.slice a0 SC.length cap0) (.slice a1 ng cap1) v2/\oU s SC ng nl i false x j bad':=by
 obtain hc|hc|hc|hc|hc|hc|hc|hc|hc|hc:=hc
 all_goals
  have l:=hid (And.intro m hc);have E: ∀j:Int,((c.toNat:Int)==j)=_:=λj=>congrArg (λn:Nat=>((n:Int)==j)) (m.trans (congrArg (48+ ·) hc))
  have M:(c.toNat:Int)-48=d:=by omega
  have O:(d:Int)<=9:=by omega
  clear hc m;have L:=hR.lt;have P:=hR.c3;obtain⟨r,B,C⟩:=dU w b L #[.int .i64 0,.int .u8 0,.int .u8 0,.int .i64 0,S_] #[.int .i64 i,.int .u8 0,.int .u8 45,.int .i64 0,S_] 219;have t:=hR.but ((ag (λ_=>False) w (.cells #[.int .i64 0,.int .u8 0,.int .u8 0,.int .i64 0,S_] 219)).trans (ag _ _ (.cells #[.int .i64 i,.int .u8 0,.int .u8 45,.int .i64 0,S_] 219))) (λh=>h);have p:=hid (iU.mk r B C);have g:=hid (bT b s i false _ _ v2 _ hs t);rw[jX hlt,hpc]at g;clear r t B C
  go_in
  go_wp2_with fail;refine g.out.mono ?_;rintro en w1 ⟨rfl,F,G⟩;have a:=p.out.next (by omega) (by omega) F;obtain⟨q0,q1,q2,q3,q4⟩:=bI a.item;obtain⟨Y,Z,f2,f3,f4⟩:=cI a.item;obtain⟨y0,y1,y2,y3,y4⟩:=bI a.box;obtain⟨g0,g1,g2,g3,g4⟩:=cI a.box;have y:=a.set1 (by omega) (by omega) (.int .u8 c.toNat);have H:=G.but (aq w1 (w.heap.size+1) 1 (.int .u8 c.toNat)) (by omega);have D:=hid y;clear a y p g P;have z:=D.out.set3 (by omega) (by omega) (.int .i64 d);have A:=z.set1 (by omega) (by omega) (.int .u8 107);have I:=(H.but (aq _ (w.heap.size+1) 3 (.int .i64 d)) (by omega)).but (aq _ (w.heap.size+1) 1 (.int .u8 107)) (by omega)
  have q:=hid A;have J:=I;clear z A;go_wp2_with fail;have f:=il q.out.box (.int .i64 i) (.int .u8 107) (.int .u8 45) (.int .i64 d) S_;have e:=jl (((w1.setCell ⟨w.heap.size+1,1,none⟩ (.int .u8 c.toNat)).setCell ⟨w.heap.size+1,3,none⟩ (.int .i64 d)).setCell ⟨w.heap.size+1,1,none⟩ (.int .u8 107)) w.heap.size (.int .i64 i) (.int .u8 107) (.int .u8 45) (.int .i64 d) S_;unfold tr at f e;revert f e;generalize (((((((w1.setCell ⟨w.heap.size+1,1,none⟩ (.int .u8 c.toNat)).setCell ⟨w.heap.size+1,3,none⟩ (.int .i64 d)).setCell ⟨w.heap.size+1,1,none⟩ (.int .u8 107)).setCell ⟨w.heap.size,0,none⟩ (.int .i64 i)).setCell ⟨w.heap.size,1,none⟩ (.int .u8 107)).setCell ⟨w.heap.size,2,none⟩ (.int .u8 45)).setCell ⟨w.heap.size,3,none⟩ (.int .i64 d)).setCell ⟨w.heap.size,4,none⟩ S_=w9
  intro f e;obtain⟨r0,Q,S,T,X⟩:=bI f;exact cU (v:= .agg #[(.int .i64 i),(.int .u8 107),(.int .u8 45),(.int .i64 d),S_]) (by simp[results,results199,go_sem,r0,Q,S,T,X]) rfl ⟨q.out.but.next e (λk hk h=>by omega),⟨i,107,45,d,none,0,0⟩,i+1,false,rfl,J.but e (by omega),(by have:=Af (cs:=SC) (ns:=ng) (nl:=nl) hpc (by rw[l.out.1,l.out.2];decide) (by simp[aY,l.out.1,l.out.2]) (by rw[l.out.1,l.out.2];rfl);rw[l.out.1,Nat.add_sub_cancel_left]at this;exact this)⟩
theorem qK (bad:Bool) (c:UInt8) (j1:Nat) (bad1:Bool) (hT:tbP s i bad=(c,j1,bad1)) (hn: ¬(c.toNat=114\/c.toNat=122\/c.toNat=43\/c.toNat=45\/c.toNat=42\/c.toNat=47\/c.toNat=60\/c.toNat=61\/c.toNat=101\/c.toNat=119\/c.toNat=44\/c.toNat=105\/c.toNat=111\/c.toNat=48\/c.toNat=49\/c.toNat=50\/c.toNat=51\/c.toNat=52\/c.toNat=53\/c.toNat=54\/c.toNat=55\/c.toNat=56\/c.toNat=57)) (hI: ∀x j bad',gy s SC ng nl i c j1 bad1=(x,j,bad')->oU s SC ng nl i bad x j bad') (hnc:SC.length<=4) (hng:ng<=3) (hnl:nl<=10) (hs:s.size<=2000)
  (hR:XrB w b s i bad (.slice a0 SC.length cap0) (.slice a1 ng cap1) v2) (hv:v2.hl= .slice al nl capl) (hG:c.toNat=103\/c.toNat=112->WfC SC/\TcV w base (.slice a0 SC.length cap0) (SC.map toX)) (hb:b<base):
  Calls prog 199 #[.pointer (some ⟨b,0,none⟩)] w λen w'=>But (· =b) w w'/\ ∃x j bad',en= .returned (itV x)/\XrB w' b s j bad' (.slice a0 SC.length cap0) (.slice a1 ng cap1) v2/\oU s SC ng nl i bad x j bad':=by
 have O:=hR.lt;have p3:=hR.c3;obtain⟨y,B,C⟩:=dU w b O #[.int .i64 0,.int .u8 0,.int .u8 0,.int .i64 0,S_] #[.int .i64 i,.int .u8 0,.int .u8 45,.int .i64 0,S_] 219;have z:=hR.but ((ag (λ_=>False) w (.cells #[.int .i64 0,.int .u8 0,.int .u8 0,.int .i64 0,S_] 219)).trans (ag _ _ (.cells #[.int .i64 i,.int .u8 0,.int .u8 45,.int .i64 0,S_] 219))) (λh=>h);have q:=hid (iU.mk y B C);have m:=hid (bT b s i bad _ _ v2 _ hs z);rw[hT]at m;have T:=tf c.toNat 114 (by omega);have Y:=tf c.toNat 122 (by omega);have a3:=tf c.toNat 43 (by omega);have a5:=tf c.toNat 45 (by omega)
 have a2:=tf c.toNat 42 (by omega);have a6:=tf c.toNat 47 (by omega);have b9:=tf c.toNat 60 (by omega);have c6:=tf c.toNat 61 (by omega);have P:=tf c.toNat 101 (by omega);have X:=tf c.toNat 119 (by omega);have a4:=tf c.toNat 44 (by omega);have Q:=tf c.toNat 105 (by omega);have S:=tf c.toNat 111 (by omega);have a7:=tf c.toNat 48 (by omega);have a8:=tf c.toNat 49 (by omega);have b0:=tf c.toNat 50 (by omega);have b1:=tf c.toNat 51 (by omega);have b2:=tf c.toNat 52 (by omega);have b4:=tf c.toNat 53 (by omega);have b5:=tf c.toNat 54 (by omega);have b6:=tf c.toNat 55 (by omega);have b7:=tf c.toNat 56 (by omega)
 have b8:=tf c.toNat 57 (by omega);clear hn;clear y z B C
 go_in
 go_wp2_with fail;refine m.out.mono ?_;rintro en w1 ⟨rfl,F,I⟩;have a:=q.out.next (by omega) (by omega) F;obtain⟨q0,q1,q2,q3,q4⟩:=bI a.item;obtain⟨Z,f1,f2,f3,f4⟩:=cI a.item;obtain⟨y0,y1,y2,y3,y4⟩:=bI a.box;obtain⟨g0,g1,g2,g3,g4⟩:=cI a.box;have A:=a.set1 (by omega) (by omega) (.int .u8 c.toNat);have J:=I.but (aq w1 (w.heap.size+1) 1 (.int .u8 c.toNat)) (by omega);have r:=hid A;clear a A q m p3;have p:=hid (λh=>hG h);have D:=hid hI;clear hG hI;have n:=rY b base s j1 SC a0 a1 al ng nl cap0 cap1 capl v2 (w1.setCell ⟨w.heap.size+1,1,none⟩ (.int .u8 c.toNat)) i bad1 c hnc hng hnl hs J hv (λh=>⟨(p.out h).1,(p.out h).2.but r.out.but (λg e cur _ _ hg he=>by omega)⟩) hb
 unfold itV at n;have E:=hid n;clear n;go_wp2_with fail;refine E.out.mono ?_;rintro en w3 ⟨G,x,j3,b3,rfl,L,H⟩;clear q0 q1 q2 q3 q4 Z f1 f2 f3 f4 y0 y1 y2 y3 y4 g0 g1 g2 g3 g4;have f:=r.out.next (by omega) (by omega) G;obtain⟨q0,q1,q2,q3,q4⟩:=bI f.item;obtain⟨Z,f1,f2,f3,f4⟩:=cI f.item;obtain⟨y0,y1,y2,y3,y4⟩:=bI f.box;obtain⟨g0,g1,g2,g3,g4⟩:=cI f.box;have t:=hid (f);have M:=L;go_wp2_with fail;have l:=il t.out.box (.int .i64 x.place) (.int .u8 x.op.toNat) (.int .u8 x.cls.toNat) (.int .i64 x.num) (.slice x.pa x.pn x.pc);have d:=jl w3 w.heap.size (.int .i64 x.place) (.int .u8 x.op.toNat) (.int .u8 x.cls.toNat) (.int .i64 x.num) (.slice x.pa x.pn x.pc)
 unfold tr at l d;revert l d;generalize ((((w3.setCell ⟨w.heap.size,0,none⟩ (.int .i64 x.place)).setCell ⟨w.heap.size,1,none⟩ (.int .u8 x.op.toNat)).setCell ⟨w.heap.size,2,none⟩ (.int .u8 x.cls.toNat)).setCell ⟨w.heap.size,3,none⟩ (.int .i64 x.num)).setCell ⟨w.heap.size,4,none⟩ (.slice x.pa x.pn x.pc)=w9;intro l d;obtain⟨r0,r1,r2,r3,r4⟩:=bI l;exact cU (v:= .agg #[(.int .i64 x.place),(.int .u8 x.op.toNat),(.int .u8 x.cls.toNat),(.int .i64 x.num),(.slice x.pa x.pn x.pc)]) (by simp[results,results199,go_sem,r0,r1,r2,r3,r4]) rfl ⟨t.out.but.next d (λk hk h=>by omega),x,j3,b3,rfl,M.but d (by omega),D.out _ _ _ H⟩
theorem Ah (bad:Bool) (hG:bad=true\/(WfC SC/\TcV w base (.slice a0 SC.length cap0) (SC.map toX))) (hnc:SC.length<=4) (hng:ng<=3) (hnl:nl<=10) (hs:s.size<=2000)
  (hR:XrB w b s i bad (.slice a0 SC.length cap0) (.slice a1 ng cap1) v2) (hv:v2.hl= .slice al nl capl) (hb:b<base):
  Calls prog 199 #[.pointer (some ⟨b,0,none⟩)] w λen w'=>But (· =b) w w'/\ ∃x j bad',en= .returned (itV x)/\XrB w' b s j bad' (.slice a0 SC.length cap0) (.slice a1 ng cap1) v2/\oU s SC ng nl i bad x j bad':=by
 by_cases hz:bad=true\/s.size<=i
 .refine qK b base s i SC a0 a1 al ng nl cap0 cap1 capl v2 w bad 0 i true (lM hz) (by decide) (λx j bad' h=> ?_) hnc hng hnl hs hR hv (λh=>by simp at h) hb;rw[uX]at h;obtain⟨rfl,rfl,rfl⟩:=(by simpa using h:_/\_/\_);exact Dq hz
 have e:=not_or.1 hz;have d:bad=false:=by simpa using e.1
 subst d;have a:i<s.size:=by omega
 have c:WfC SC/\TcV w base (.slice a0 SC.length cap0) (SC.map toX):=by rcases hG with h|h;cases h;exact h
 by_cases ha:(pk s i).toNat=114\/(pk s i).toNat=122\/(pk s i).toNat=43\/(pk s i).toNat=45\/(pk s i).toNat=42\/(pk s i).toNat=47\/(pk s i).toNat=60\/(pk s i).toNat=61\/(pk s i).toNat=101\/(pk s i).toNat=119\/(pk s i).toNat=44\/(pk s i).toNat=105\/(pk s i).toNat=111
 .exact EL b s i SC a0 a1 al ng nl cap0 cap1 capl v2 w _ ha a rfl hnc hng hnl hs hR hv
 by_cases hd:48<=(pk s i).toNat/\(pk s i).toNat<=57
 .exact EM b s i SC a0 a1 al ng nl cap0 cap1 capl v2 w _ ((pk s i).toNat-48) (by omega) (by omega) a rfl hnc hng hnl hs hR hv
 exact qK b base s i SC a0 a1 al ng nl cap0 cap1 capl v2 w false (pk s i) (i+1) false (jX a) (by omega) (λx j bad' h=>BW hnc rfl (by omega) h) hnc hng hnl hs hR hv (λ_=>c) hb
end
def fi (l:List Nat):List Value:=l.map λ(k:Nat)=>Value.int .i64 (k:Int)
def ow (its:List XIt):List Ins:=its.map λx=>⟨x.op,0,0,0⟩
def cy (t:List Ins):Nat->Nat->List Nat
 |0,_=> []
 |n+1,k=>if k<t.length then k::cy t n (bk t k)else []
def eu (t:List Ins) (k:Nat):List Nat:=match t[k]? with
 |some x=>cy t (ay x.op) (k+1)
 |none=> []
theorem mx {t:List Ins} {k:Nat} {x:Ins} (h:t[k]?=some x):bk t k=k+1+sk (ay x.op) (t.drop (k+1)):=by
 obtain⟨hl,a⟩:=bn h;unfold bk;rw[List.drop_eq_getElem_cons hl,a];simp[sk];omega
theorem ox {t:List Ins} {m p:Nat}:p+sk (m+1) (t.drop p)=bk t p+sk m (t.drop (bk t p)):=by
 rw[Nat.add_comm m 1,Eo,List.drop_drop];unfold bk;omega
theorem EN {m:Nat}:sk m []=0:=by cases m<;>rfl
theorem tO {t:List Ins} {k:Nat} (h:k<=t.length):bk t k<=t.length:=by
 unfold bk;have:=Fz (t:=t.drop k) (m:=1);rw[List.length_drop]at this;omega
theorem pO {t:List Ins} {k:Nat} (h:k<t.length):k<bk t k:=by
 rw[mx (aM h)];omega
theorem vx:(prog.info? 3).map (λi=>(i.zero,i.size,i.bytes))=some (some (.int .i64 0),1,8):=by kernel_rfl
theorem BX (n:Nat):madeCells #[.int .i64 0] n=(fi (List.replicate n 0)).toArray:=by
 apply Array.ext
 .rw[size_madeCells];simp[fi]
 .intro k a b;have e:k % 1=0:=by omega
  simp[madeCells,e,fi]
theorem BY (n:Nat) (hn:n<=1000) (w:World):(Instr.makeSlice 217 (.int .i64 (n:Int)) (.int .i64 (n:Int))).run prog w= .ok (.slice (some ⟨w.heap.size,0,none⟩) n n) (w.alloc (.cells (fi (List.replicate n 0)).toArray 3)):=by
 have a:=vx
 cases hi:prog.info? 3 with
 |none=>rw[hi]at a;cases a
 |some i=>
  rw[hi]at a;simp only[Option.map_some,Option.some.injEq,Prod.mk.injEq]at a;obtain⟨c,b,hb⟩:=a;have:=run_make (P:=prog) w 217 3 i _ (by kernel_rfl) hi c .i64 .i64 n n (by omega) (by omega) (by rw[hb];omega) (by omega);rw[this,b];simp only[ny,Value.cells,Nat.mul_one];rw[BX]
structure WpI (w:World) (base:Nat) (its its':List XIt) (bh:List Nat) (q:Nat):Prop where
 len:its'.length=its.length
 blen:bh.length=its.length
 lo: ∀k,k<q->its'[k]?=its[k]?
 hi: ∀k,q<=k->k<its.length->bh[k]?=some (bk (ow its) k)
 pt: ∀k x x',q<=k->its[k]?=some x->its'[k]?=some x'->x'.place=x.place/\x'.op=x.op/\x'.cls=x.cls/\x'.num=x.num/\w.ownsRow base 3 1 (.slice x'.pa x'.pn x'.pc) (eu (ow its) k).length (fi (eu (ow its) k))
theorem oy: ∀{l:List XIt} {p:Nat} {x:XIt} (h:l[p]?=some x) (a:Option Addr) (n c:Nat),(cd l).set (p*5+4) (.slice a n c)=cd (l.set p {x with pa:=a,pn:=n,pc:=c}):=by
 intro l
 induction l with
 |nil=>intro p x h;simp at h
 |cons y l ih=>
  intro p x h a n c
  cases p with
  |zero=>
   simp at h;subst h;simp[cd]
  |succ p=>
   have b:=ih (p:=p) (x:=x) (by simpa using h) a n c;rw[show(p+1)*5+4=(p*5+4)+5 from by omega];simp only[cd,lu,List.cons_append,List.nil_append,List.set_cons_succ]at b⊢;rw[b]
theorem pP {l:List Nat} {k v:Nat} (h:l[k]?=some v):(fi l)[k]?=some (.int .i64 v):=by simp[fi,h]
theorem Ai (l:List Nat) (k:Nat):fi (l++ [k])=fi l++ [.int .i64 k]:=by simp[fi]
theorem vy (l:List Nat) (p k:Nat):(fi l).set p (.int .i64 k)=fi (l.set p k):=by simp[fi,List.map_set]
theorem lX (its:List XIt):(ow its).length=its.length:=by simp[ow]
theorem Ds {its:List XIt} {k:Nat} {x:XIt} (h:its[k]?=some x):(ow its)[k]?=some ⟨x.op,0,0,0⟩:=by simp[ow,h]
structure PtI (t:List Ins) (p ar:Nat) (l:List Nat) (k:Nat):Prop where
 pts:l++cy t (ar-l.length) k=eu t p
 fin:k+sk (ar-l.length) (t.drop k)=bk t p
 gt:p<k
 le:k<=t.length
theorem PtI.next {t:List Ins} {p ar:Nat} {l:List Nat} {k:Nat} (h:PtI t p ar l k) (hl:l.length<ar) (hk:k<t.length):PtI t p ar (l++ [k]) (bk t k):=by
 obtain⟨d,b⟩: ∃d,ar-l.length=d+1:=⟨ar-l.length-1,by omega⟩;have a:ar-(l++ [k]).length=d:=by simp;omega
 refine⟨?_,?_,?_,tO (by omega)⟩
 .rw[a,<-h.pts,b];simp[cy,hk]
 .rw[a,<-h.fin,b,ox]
 .have:=h.gt;have:=pO hk;omega
theorem PtI.done {t:List Ins} {p ar:Nat} {l:List Nat} {k:Nat} (h:PtI t p ar l k) (hl: ¬l.length<ar\/ ¬k<t.length):l=eu t p/\k=bk t p:=by
 obtain hl|hl:=hl
 .have c:ar-l.length=0:=by omega
  have a:=h.pts;have b:=h.fin;rw[c]at a b;simp[cy,pJ]at a b;exact⟨a,b⟩
 .have a:=h.pts;have b:=h.fin;rw[List.drop_eq_nil_of_le (by omega),EN]at b
  cases hd:ar-l.length with
  |zero=>rw[hd]at a;simp[cy]at a;exact⟨a,by omega⟩
  |succ d=>rw[hd]at a;simp[cy,hl]at a;exact⟨a,by omega⟩
theorem j6 (bx:Nat) (its:List XIt) (ai:Option Addr) (capi:Nat) (w:World) (hn:its.length<=24) (hi:ItB w bx (.slice ai its.length capi) its):
  Calls prog 202 #[.slice ai its.length capi] w λen w'=>B_ w w'/\ ∃ao cap its' bh,en= .returned (.slice ao its'.length cap)/\ItB w' w.heap.size (.slice ao its'.length cap) its'/\WpI w' w.heap.size its its' bh 0:=by
 have hE:=ItB.empty w;have h9:=BY its.length (by omega)
 go_in
 go_wp2_with (at_builtin;refine lj rfl _ _ rfl w.heap.size bx _ _ its rfl rfl hE (ah hi (ag (λ_=>False) _ _) (λ_ _ h=>h)) (by omega) (by simp) ?_);intro ao cap w2 Z b5;have M:B_ w w2:=(ag (λ_=>False) _ _).next b5 (λk hk h=>by simp[Value.ownBlock]at h;omega);clear hE b5;go_wp2_with fail
 have f3:(w2.alloc (.cells (fi (List.replicate its.length 0)).toArray 3)).ownsRow w2.heap.size 3 1 (.slice (some ⟨w2.heap.size,0,none⟩) its.length its.length) its.length (fi (List.replicate its.length 0)):=
  ⟨by simp[fi],Or.inr ⟨w2.heap.size,its.length,_,rfl,bG _,bj _ _,by simp[fi],by unfold maxLen;omega,by simp[fi],by simp[fi]⟩⟩
 have e9:B_ w (w2.alloc (.cells (fi (List.replicate its.length 0)).toArray 3)):=M.trans (ag _ _ _);have f1:ItB (w2.alloc (.cells (fi (List.replicate its.length 0)).toArray 3)) w.heap.size (.slice ao its.length cap) its:=ah Z (ag (λ_=>False) _ _) (λ_ _ h=>h);have i5:(w2.alloc (.cells (fi (List.replicate its.length 0)).toArray 3)).heap.size=w2.heap.size+1:=by simp
 generalize (w2.alloc (.cells (fi (List.replicate its.length 0)).toArray 3))=w3 at*;have g6:=M.size
 go_loopg [5] its.length (λmm js wr=> ∃(v:Int) (q:Nat) (its':List XIt) (bh:List Nat),js= .int .i64 v/\v=(q:Int)-1/\q<=its.length/\q<=mm/\mm<=q/\wr.ownsRow w.heap.size 219 5 (.slice ao its.length cap) its.length (cd its')/\wr.ownsRow w2.heap.size 3 1 (.slice (some ⟨w2.heap.size,0,none⟩) its.length its.length) its.length (fi bh)/\B_ w wr/\w2.heap.size<wr.heap.size/\Hid (WpI wr (w2.heap.size+1) its its' bh q))
 case atStart=>exact⟨_,its.length,its,_,rfl,rfl,by omega,by omega,by omega,f1,f3,e9,by omega,⟨rfl,by simp,λ_ _=>rfl,λk n h2=>absurd n (by omega),λk x x' n h2 h3=>absurd (bn h2).1 (by omega)⟩⟩
 case round=>
  obtain⟨v,q,its',bh,rfl,hv,e0,e7,i4,I,a4,T,i7,L⟩:=hrel
  cases q with
  |zero=>
   have g1: ¬(0:Int)<=v:=by omega
   have b3:=hid L.out.len;go_wp2_with fail
   have a7:WpI wr w.heap.size its its' bh 0:=by
    have h:=L.out
    exact⟨h.len,h.blen,h.lo,h.hi,λk x x' n h2 h3=>by
     obtain⟨e1,e2,e3,e4,e5⟩:=h.pt k x x' n h2 h3;exact⟨e1,e2,e3,e4,dh e5 (by omega)⟩⟩
   have f6:ItB wr w.heap.size (.slice ao its'.length cap) its':=by
    unfold ItB;rw[b3.out];exact I
   exact cV (.slice ao its.length cap) results202 rfl rfl ⟨T,ao,cap,its',by rw[b3.out],f6,bh,a7⟩
  |succ p=>
   obtain⟨wo,g3⟩: ∃wo,wo=wr:=⟨_,rfl⟩;subst g3;have g2:v=(p:Int):=by omega
   subst g2;clear hv;obtain⟨X,hX⟩: ∃X,its[p]?=some X:=⟨_,aM (by omega)⟩;have a5:its'[p]?=some X:=by rw[L.out.lo p (by omega)];exact hX
   have HX:=hid hX;have H:=hid a5;obtain⟨gw,rfl,a8,f7,b9⟩:=aL I (by omega);have q1:wo.cell? ⟨gw,p*5+1,none⟩=some (.int .u8 X.op.toNat):=b9 _ _ (aW (k:=1) a5 (by omega));obtain⟨ar,C⟩: ∃ar,ay X.op=ar:=⟨_,rfl⟩;have f5:ar<=3:=by rw[<-C];unfold ay;split;omega;split;omega;split<;>omega
   have b6:PtI (ow its) p ar [] (p+1):=by
    have n:=Ds hX;refine⟨?_,?_,by omega,by rw[lX];omega⟩
    .simp only[eu,n,List.nil_append,List.length_nil,Nat.sub_zero,C]
    .rw[mx n];simp only[List.length_nil,Nat.sub_zero,C]
   have e8:=hid b6;have Y:=λW=>lW X.op W
   rw[C]at Y;have O:=hid Y;have f0:(wo.alloc (.cells #[] 3)).ownsRow wo.heap.size 3 1 (.slice (some ⟨wo.heap.size,0,none⟩) 0 0) ([]:List Nat).length (fi []):=⟨rfl,Or.inr ⟨wo.heap.size,0,#[],rfl,bG _,bj wo _,by simp,by unfold maxLen;omega,rfl,rfl⟩⟩;have i3:(p:Int)<(its.length:Int):=by omega
   have i1:(0:Int)<=(p:Int):=by omega
   clear hX a5 b6 Y C b9;go_wp2_with fail
   go_loopg [6,7] ar (λmm ps pv wq=> ∃(al:Option Addr) (cl:Nat) (l:List Nat) (k:Nat),ps= .slice al l.length cl/\pv= .int .i64 k/\k<=its.length/\l.length<=ar/\l.length+mm<=ar/\ar<=l.length+mm/\wq.ownsRow wo.heap.size 3 1 (.slice al l.length cl) l.length (fi l)/\B_ wo wq/\wo.heap.size<=wq.heap.size/\Hid (PtI (ow its) p ar l k))
   case atStart=>exact⟨_,0,[],p+1,rfl,by simp,by omega,by simp,by simp,by simp,f0,ag _ _ _,by simp,e8⟩
   case round=>
    obtain⟨al,cl,l,k,rfl,rfl,hk,h6,h7,h8,y,b,i6,HP⟩:=hrel;have q1q:=b.kc q1 a8;obtain⟨hl,J⟩ |hl| ⟨hl,J⟩:=(by omega:(l.length<ar/\k<its.length)\/(¬l.length<ar)\/(l.length<ar/\ ¬k<its.length))
    .have d6:(l.length:Int)<(ar:Int):=by omega
     have b1:(k:Int)<(its.length:Int):=by omega
     have i2:=HP.out.gt;have a6:=L.out.hi k (by omega) J;have d:=ah a4 b (λ_ _ h=>h);obtain⟨gb',a,b7,b8,f⟩:=aL d (by omega);have i:w2.heap.size=gb':=by injection a with h;injection h with h
     subst i;have b4:=hid (HP.out.next hl (by rw[lX];exact J));have c6:bk (ow its) k<=its.length:=by have:=tO (t:=ow its) (k:=k) (by rw[lX];omega);rw[lX]at this;exact this
     obtain⟨e,he⟩: ∃e,bk (ow its) k=e:=⟨_,rfl⟩;rw[he]at a6 b4 c6;have c1:=f _ _ (pP a6);clear f he a6 a;go_wp2_with fail;refine(O.out wr).mono ?_;rintro en wx ⟨rfl,m⟩;rw[m];clear m wx;obtain⟨i0,f8,g4,g5,g7⟩:=info_parts vx;go_wp2_with (at_builtin;refine wpList_append_lies _ rfl _ _ _ rfl wo.heap.size 3 i0 _ 1 8 (by kernel_rfl) f8 g4 g5 g7 rfl (by omega) _ l.length (fi l) rfl (y.alloc _) ⟨wr.heap.size,0,none⟩ 1 1 [.int .i64 k] rfl rfl (iO (cs:=#[.int .i64 k]) (t:=3) (fr:=(0,0)) (bj wr _)) (by simp[Value.oneCell']) (by omega) (by unfold maxLen;omega) (by omega) (by simp;omega) (wr.heap.size+1) (by simp) ?_)
     intro gg a2 w5 a1 a0 h5 g0;have f2:But (λk'=>(Value.slice al l.length cl).ownBlock=some k') wr w5:=(ag _ _ _).trans (bD a0);have z:B_ wo w5:=b.next f2 (λk' hk' h=>absurd (aC y k' h) (by omega));have c5:=(z.cell (p:=⟨w2.heap.size,k,none⟩) (by omega) (λh=>h)).trans ((b.cell (p:=⟨w2.heap.size,k,none⟩) (by omega) (λh=>h)).symm.trans c1);have h0:=z.size;clear c1;go_wp2_with fail
     go_roundg (ar-(l.length+1))
     case measure=>omega
     case rel=>exact⟨some ⟨gg,0,none⟩,a2,l++ [k],e,by simp,rfl,c6,by simp;omega,by simp;omega,by simp;omega,by rw[aV,Ai];exact a1,z,h0,b4⟩
    .have d6: ¬(l.length:Int)<(ar:Int):=by omega
     have hD:=HP.out.done (Or.inl hl);have P:=hid hD;have s:wr.ownsRow w.heap.size 219 5 (.slice (some ⟨gw,0,none⟩) its.length cap) its.length (cd its'):=ah I b (λ_ _ h=>h);have d:=ah a4 b (λ_ _ h=>h);have b0:gw<w2.heap.size:=bB Z gw rfl;obtain⟨gq,E,e0,e7,D⟩:=aL s (by omega);have F:gw=gq:=by injection E with h;injection h with h
     subst F;obtain⟨gb',a,b7,b8,f⟩:=aL d (by omega);have i:w2.heap.size=gb':=by injection a with h;injection h with h
     subst i;have c4:wr.cell? ⟨gw,p*5+4,none⟩=some (.slice X.pa X.pn X.pc):=D _ _ (aW (k:=4) H.out (by omega));have f4:=nH s (p*5+4);obtain⟨ob,G⟩: ∃ob,bh[p]?=some ob:=⟨_,aM (by rw[L.out.blen];omega)⟩;have cb:=f _ _ (pP G);have fb:=nH d p;have r:=lK s (p*5+4) (.slice al l.length cl);rw[oy H.out]at r;have a3:=ah r (aq _ w2.heap.size p (.int .i64 k)) (λg hg h=>by simp[Value.ownBlock]at hg;omega);have A:=ah d (aq wr gw (p*5+4) (.slice al l.length cl)) (λg hg h=>by simp[Value.ownBlock]at hg;omega);have B:=lK A p (.int .i64 k);rw[vy]at B;have c:But (λj=>j=gw\/j=w2.heap.size) wr ((wr.setCell ⟨gw,p*5+4,none⟩ (.slice al l.length cl)).setCell ⟨w2.heap.size,p,none⟩ (.int .i64 k)):=((aq _ _ _ _).mono (λ_ _ h=>Or.inl h)).trans ((aq _ _ _ _).mono (λ_ _ h=>Or.inr h))
     have S:B_ w ((wr.setCell ⟨gw,p*5+4,none⟩ (.slice al l.length cl)).setCell ⟨w2.heap.size,p,none⟩ (.int .i64 k)):=(T.trans b).next c (λj hj h=>by omega);have h4:=c.size
     have Q:Hid (WpI ((wr.setCell ⟨gw,p*5+4,none⟩ (.slice al l.length cl)).setCell ⟨w2.heap.size,p,none⟩ (.int .i64 k)) (w2.heap.size+1) its (its'.set p {X with pa:=al,pn:=l.length,pc:=cl}) (bh.set p k) p):=by
      have h:=L.out;have b2:p<its'.length:=by rw[h.len];omega
      refine⟨by rw[List.length_set];exact h.len,by rw[List.length_set];exact h.blen,λj hj=> ?_,λj hj1 hj2=> ?_,λj x x' hj1 hj2 hj3=> ?_⟩
      .rw[List.getElem?_set_ne (by omega)];exact h.lo j (by omega)
      .by_cases hjp:p=j
       .subst hjp;rw[List.getElem?_set_self (by rw[h.blen];omega),P.out.2]
       .rw[List.getElem?_set_ne hjp];exact h.hi j (by omega) hj2
      .by_cases hjp:p=j
       .subst hjp;rw[HX.out]at hj2;rw[List.getElem?_set_self b2]at hj3
        cases hj2
        cases hj3
        refine⟨rfl,rfl,rfl,rfl,?_⟩;have n:=dh (ah y c (λg hg h=>by have:=aC y g hg;omega)) (show w2.heap.size+1<=wo.heap.size from by omega);rw[P.out.1]at n;rw[<-P.out.1]at n⊢;exact n
       .rw[List.getElem?_set_ne hjp]at hj3;obtain⟨e1,e2,e3,e4,e5⟩:=h.pt j x x' (by omega) hj2 hj3;have e6:=ah e5 b (λ_ _ h=>h);exact⟨e1,e2,e3,e4,ah e6 c (λg hg h=>by have:=aC e6 g hg;omega)⟩
     clear D f E a r A G hD;go_wp2_with fail;refine(O.out wr).mono ?_;rintro en wx ⟨rfl,m⟩;rw[m];clear m wx;go_wp2_with fail
     go_roundg p
     case measure=>omega
     case rel=>exact⟨_,p,_,_,rfl,rfl,by omega,by omega,by omega,a3,B,S,by omega,Q⟩
    .have d6:(l.length:Int)<(ar:Int):=by omega
     have b1: ¬(k:Int)<(its.length:Int):=by omega
     have hD:=HP.out.done (Or.inr (by rw[lX];exact J));have P:=hid hD;have s:wr.ownsRow w.heap.size 219 5 (.slice (some ⟨gw,0,none⟩) its.length cap) its.length (cd its'):=ah I b (λ_ _ h=>h);have d:=ah a4 b (λ_ _ h=>h);have b0:gw<w2.heap.size:=bB Z gw rfl;obtain⟨gq,E,e0,e7,D⟩:=aL s (by omega);have F:gw=gq:=by injection E with h;injection h with h
     subst F;obtain⟨gb',a,b7,b8,f⟩:=aL d (by omega);have i:w2.heap.size=gb':=by injection a with h;injection h with h
     subst i;have c4:wr.cell? ⟨gw,p*5+4,none⟩=some (.slice X.pa X.pn X.pc):=D _ _ (aW (k:=4) H.out (by omega));have f4:=nH s (p*5+4);obtain⟨ob,G⟩: ∃ob,bh[p]?=some ob:=⟨_,aM (by rw[L.out.blen];omega)⟩;have cb:=f _ _ (pP G);have fb:=nH d p;have r:=lK s (p*5+4) (.slice al l.length cl);rw[oy H.out]at r;have a3:=ah r (aq _ w2.heap.size p (.int .i64 k)) (λg hg h=>by simp[Value.ownBlock]at hg;omega);have A:=ah d (aq wr gw (p*5+4) (.slice al l.length cl)) (λg hg h=>by simp[Value.ownBlock]at hg;omega);have B:=lK A p (.int .i64 k);rw[vy]at B;have c:But (λj=>j=gw\/j=w2.heap.size) wr ((wr.setCell ⟨gw,p*5+4,none⟩ (.slice al l.length cl)).setCell ⟨w2.heap.size,p,none⟩ (.int .i64 k)):=((aq _ _ _ _).mono (λ_ _ h=>Or.inl h)).trans ((aq _ _ _ _).mono (λ_ _ h=>Or.inr h))
     have S:B_ w ((wr.setCell ⟨gw,p*5+4,none⟩ (.slice al l.length cl)).setCell ⟨w2.heap.size,p,none⟩ (.int .i64 k)):=(T.trans b).next c (λj hj h=>by omega);have h4:=c.size
     have Q:Hid (WpI ((wr.setCell ⟨gw,p*5+4,none⟩ (.slice al l.length cl)).setCell ⟨w2.heap.size,p,none⟩ (.int .i64 k)) (w2.heap.size+1) its (its'.set p {X with pa:=al,pn:=l.length,pc:=cl}) (bh.set p k) p):=by
      have h:=L.out;have b2:p<its'.length:=by rw[h.len];omega
      refine⟨by rw[List.length_set];exact h.len,by rw[List.length_set];exact h.blen,λj hj=> ?_,λj hj1 hj2=> ?_,λj x x' hj1 hj2 hj3=> ?_⟩
      .rw[List.getElem?_set_ne (by omega)];exact h.lo j (by omega)
      .by_cases hjp:p=j
       .subst hjp;rw[List.getElem?_set_self (by rw[h.blen];omega),P.out.2]
       .rw[List.getElem?_set_ne hjp];exact h.hi j (by omega) hj2
      .by_cases hjp:p=j
       .subst hjp;rw[HX.out]at hj2;rw[List.getElem?_set_self b2]at hj3
        cases hj2
        cases hj3
        refine⟨rfl,rfl,rfl,rfl,?_⟩;have n:=dh (ah y c (λg hg h=>by have:=aC y g hg;omega)) (show w2.heap.size+1<=wo.heap.size from by omega);rw[P.out.1]at n;rw[<-P.out.1]at n⊢;exact n
       .rw[List.getElem?_set_ne hjp]at hj3;obtain⟨e1,e2,e3,e4,e5⟩:=h.pt j x x' (by omega) hj2 hj3;have e6:=ah e5 b (λ_ _ h=>h);exact⟨e1,e2,e3,e4,ah e6 c (λg hg h=>by have:=aC e6 g hg;omega)⟩
     clear D f E a r A G hD;go_wp2_with fail;refine(O.out wr).mono ?_;rintro en wx ⟨rfl,m⟩;rw[m];clear m wx;go_wp2_with fail
     go_roundg p
     case measure=>omega
     case rel=>exact⟨_,p,_,_,rfl,rfl,by omega,by omega,by omega,a3,B,S,by omega,Q⟩
theorem tP (y:Ins):ay (bQ y).op=ay y.op:=by
 unfold bQ
 split
 .rename_i h
  simp only[aY,dl,dk]at h
  show ay 107=ay y.op
  unfold ay;rw[if_neg (show¬y.op.toNat=105 from by omega),if_neg (show¬ [43,45,42,47,60,61,101,112,99,44,111].contains y.op.toNat=true from by simp;omega),if_neg (show¬ [115,103,120,119].contains y.op.toNat=true from by simp;omega)]
  rfl
 .rfl
theorem Dt: ∀{t u:List Ins} {m:Nat},t.map (λx=>ay x.op)=u.map (λx=>ay x.op)->sk m t=sk m u:=by
 intro t
 induction t with
 |nil=>intro u m h;cases u with|nil=>rfl|cons y u=>simp at h
 |cons x t ih=>
  intro u m h
  cases u with
  |nil=>simp at h
  |cons y u=>
   simp at h
   cases m with
   |zero=>rfl
   |succ m=>simp only[sk,h.1];rw[ih h.2]
theorem BZ (is:List Ins):(ow (is.map bQ)).map (λx=>ay x.op)=is.map (λx=>ay x.op):=by
 simp only[ow,List.map_map]
 apply List.map_congr_left
 intro y _;exact tP y
theorem Aj {t u:List Ins} (h:t.map (λx=>ay x.op)=u.map (λx=>ay x.op)) (k:Nat):bk t k=bk u k:=by
 unfold bk;rw[Dt (u:=u.drop k) (by simp only[List.map_drop,h])]
theorem Ak {t u:List Ins} (h:t.map (λx=>ay x.op)=u.map (λx=>ay x.op)): ∀{n k:Nat},cy t n k=cy u n k:=by
 have hl:t.length=u.length:=by have:=congrArg List.length h;simpa using this
 intro n
 induction n with
 |zero=>intro k;rfl
 |succ n ih=>intro k;simp only[cy,hl,Aj h,ih]
theorem Al {t u:List Ins} (h:t.map (λx=>ay x.op)=u.map (λx=>ay x.op)) (k:Nat):eu t k=eu u k:=by
 have a:(t.map (λx=>ay x.op))[k]?=(u.map (λx=>ay x.op))[k]?:=by rw[h]
 rw[cg,cg]at a;unfold eu
 cases ht:t[k]? with
 |none=>rw[ht]at a;cases hu:u[k]? with
  |none=>rfl
  |some y=>rw[hu]at a;cases a
 |some x=>rw[ht]at a;cases hu:u[k]? with
  |none=>rw[hu]at a;cases a
  |some y=>
   rw[hu]at a;simp at a;simp only[a];exact Ak h
structure mB (w:World) (base:Nat) (its:List XIt) (is:List Ins):Prop where
 len:its.length=is.length
 at': ∀k y x,is[k]?=some y->its[k]?=some x->x.place=(bQ y).place/\x.op=(bQ y).op/\x.cls=(bQ y).cls/\x.num=(bQ y).num/\w.ownsRow base 3 1 (.slice x.pa x.pn x.pc) (eu is k).length (fi (eu is k))
theorem mB.mono {w:World} {base base':Nat} {its:List XIt} {is:List Ins} (h:mB w base its is) (hb:base'<=base):mB w base' its is:=
 ⟨h.len,λk y x hy hx=>by
  obtain⟨a,b,c,d,e⟩:=h.at' k y x hy hx;exact⟨a,b,c,d,dh e hb⟩⟩
theorem WpI.nodes {w:World} {base:Nat} {is:List Ins} {its':List XIt} {bh:List Nat} (h:WpI w base (is.map bQ) its' bh 0):mB w base its' is:=by
 refine⟨by rw[h.len];simp,λk y x hy hx=> ?_⟩;have a:=h.pt k (bQ y) x (by omega) (by simp[hy]) hx;rw[Al (BZ is)]at a;exact a
def m6 (s:ByteArray) (cs:List Cls) (ns nl i:Nat) (bad:Bool):Except Nat (List Ins×Nat):=if bad=true then .error i else eU s cs ns nl 24 [] 1 i
def NdC (s:ByteArray) (cs:List Cls) (ns nl:Nat) (R:Except Nat (List Ins×Nat)) (its:List XIt) (m j:Nat) (bad:Bool):Prop:=
 (bad=false/\ ∃is,its=is.map bQ/\eU s cs ns nl (24-is.length) is m j=R)\/(bad=true/\R= .error j)
section
variable {s:ByteArray} {cs:List Cls} {ns nl:Nat} {R:Except Nat (List Ins×Nat)}
theorem NdC.start {i:Nat} {bad:Bool} (hR:m6 s cs ns nl i bad=R):NdC s cs ns nl R [] 1 i bad:=by
 unfold m6 at hR
 cases bad with
 |true=>exact Or.inr ⟨rfl,hR.symm⟩
 |false=>exact Or.inl ⟨rfl,[],rfl,hR⟩
theorem NdC.next {its:List XIt} {m j:Nat} (h:NdC s cs ns nl R its (m+1) j false) (hl:its.length<24) {x:XIt} {j':Nat} {bad':Bool} (hx:oU s cs ns nl j false x j' bad'):NdC s cs ns nl R (its++ [x]) (m+ay x.op) j' bad':=by
 obtain⟨_,is,rfl,h⟩ | ⟨h,_⟩:=h
 .obtain⟨d,e⟩: ∃d,24-is.length=d+1:=⟨24-is.length-1,by simp at hl;omega⟩;rw[e]at h;simp only[eU]at h;obtain⟨b,y,a,c⟩ | ⟨b,a⟩:=hx
  .simp only[tN,dx,if_false]at a;rw[a]at h;refine Or.inl ⟨b,is++ [y],by simp[c],?_⟩;rw[show 24-(is++ [y]).length=d from by simp;omega,c,tP];exact h
  .simp only[tN,dx,if_false]at a;rw[a]at h;exact Or.inr ⟨b,h.symm⟩
 .cases h
theorem NdC.full {its:List XIt} {m j:Nat} {bad:Bool} (h:NdC s cs ns nl R its (m+1) j bad) (hl:bad=true\/ ¬its.length<24):R= .error j:=by
 obtain⟨a,is,rfl,h⟩ | ⟨_,h⟩:=h
 .obtain hl|hl:=hl
  .rw[a]at hl;cases hl
  .rw[show 24-is.length=0 from by simp at hl;omega]at h;exact h.symm
 .exact h
theorem NdC.fin {its:List XIt} {j:Nat} {bad:Bool} (h:NdC s cs ns nl R its 0 j bad):(bad=false/\ ∃is,its=is.map bQ/\R= .ok (is,j))\/(bad=true/\R= .error j):=by
 obtain⟨h1,is,h2,h⟩ |h:=h
 .rw[lD]at h;exact Or.inl ⟨h1,is,h2,h.symm⟩
 .exact Or.inr h
end
def F9 (s:ByteArray) (SC:List Cls) (a0 a1:Option Addr) (ng nl cap0 cap1:Nat) (v2:RdV) (b sz:Nat) (R:Except Nat (List Ins×Nat)) (en:Ending) (w':World):Prop:=
 ∃ao cap its j bad',en= .returned (.slice ao (List.length its) cap)/\XrB w' b s j bad' (.slice a0 SC.length cap0) (.slice a1 ng cap1) v2/\ItB w' sz (.slice ao (List.length its) cap) its/\its.length<=24/\
  ((bad'=false/\ ∃is,R= .ok (is,j)/\mB w' sz its is)\/(bad'=true/\R= .error j))
theorem qL (b base:Nat) (s:ByteArray) (i:Nat) (bad:Bool) (SC:List Cls) (a0 a1 al:Option Addr) (ng nl cap0 cap1 capl:Nat) (v2:RdV) (w:World)
  (hG:bad=true\/(WfC SC/\TcV w base (.slice a0 SC.length cap0) (SC.map toX))) (hnc:SC.length<=4) (hng:ng<=3) (hnl:nl<=10) (hs:s.size<=2000)
  (hR:XrB w b s i bad (.slice a0 SC.length cap0) (.slice a1 ng cap1) v2) (hv:v2.hl= .slice al nl capl) (hb:b<base):
  Calls prog 146 #[.pointer (some ⟨b,0,none⟩)] w λen w'=>But (· =b) w w'/\F9 s SC a0 a1 ng nl cap0 cap1 v2 b w.heap.size (m6 s SC ng nl i bad) en w':=by
 obtain⟨R,Y⟩: ∃R,m6 s SC ng nl i bad=R:=⟨_,rfl⟩;rw[Y];have b9:=hid (NdC.start Y);clear Y;obtain⟨i0,e5,e9,f0,f1⟩:=info_parts ku;have f3:=hR.lt;have HG:=hid hG;have b8:=hid (λ(w':World) (i':Nat) (bad':Bool) (h:But (· =b) w w') (hg:bad'=true\/(WfC SC/\TcV w base (.slice a0 SC.length cap0) (SC.map toX))) (hr:XrB w' b s i' bad' (.slice a0 SC.length cap0) (.slice a1 ng cap1) v2)=>Ah b base s i' SC a0 a1 al ng nl cap0 cap1 capl v2 w' bad' (hg.imp id (λq=>⟨q.1,q.2.but h (λg e cur _ _ hg he=>by omega)⟩)) hnc hng hnl hs hr hv hb);clear hG;have d6:=ItB.empty w;have e0:=hR.but (ag (λ_=>False) w (.cells #[] 219)) (λh=>h)
 have c6:But (· =b) w (w.alloc (.cells #[] 219)):=ag _ _ _
 go_in
 go_wp2_with fail
 go_loopg [3,4] 24 (λmm vs ms wr=> ∃(ao:Option Addr) (cap j:Nat) (bad':Bool) (its:List XIt) (m:Nat),vs= .slice ao its.length cap/\ms= .int .i64 m/\m<=100/\its.length+mm<=24/\24<=its.length+mm/\m<=1+3*its.length/\But (· =b) w wr/\XrB wr b s j bad' (.slice a0 SC.length cap0) (.slice a1 ng cap1) v2/\ItB wr w.heap.size (.slice ao its.length cap) its/\Hid (bad'=true\/(WfC SC/\TcV w base (.slice a0 SC.length cap0) (SC.map toX)))/\Hid (NdC s SC ng nl R its m j bad'))
 case atStart=>exact⟨_,0,i,bad,[],1,rfl,rfl,by omega,by simp,by simp,by simp,c6,e0,d6,HG,b9⟩
 case round=>
  obtain⟨ao,cap,j,bad',its,m,rfl,rfl,hm,f4,f5,f6,D,B,v,a8,J⟩:=hrel;have e8:=D.size;have f2:=B.lt;have h4:=B.c4;have h3:=B.c3
  cases m with
  |zero=>
   have hz: ¬(0:Int)<0:=by omega
   have HF:=hid J.out.fin;clear J;go_wp2_with fail;have z:ItB wr w.heap.size (.slice ao its.length cap) its:=ah v (cq (λk=>k=b) wr) (λg hg h=>by have:=aC v g hg;omega);have b5:=((cq (λk=>k=b) wr)).size;refine(j6 w.heap.size its ao cap wr (by omega) z).mono ?_;rintro en P ⟨l,d,c,a,b1,rfl,p,f⟩;have Q:=hid f;have n:But (· =b) w P:=(D.trans (cq (λk=>k=b) wr)).next l (λ_ _ h=>h.elim);have H:=(B).but l (λh=>h);have r:ItB P w.heap.size (.slice d a.length c) a:=dh p (by omega);have F:a.length<=24:=by have:=f.len;omega
   have a6:w.heap.size<=(wr).heap.size:=by omega
   clear f p;go_wp2_with fail
   exact cV (.slice d a.length c) results146 rfl rfl ⟨n,d,c,a,_,_,rfl,H,r,F,by
     obtain⟨h1,is,h2,h3⟩ |h:=HF.out
     .subst h2;exact Or.inl ⟨h1,is,h3,Q.out.nodes.mono a6⟩
     .exact Or.inr h⟩
  |succ m=>
   have hz:(0:Int)<((m+1:Nat):Int):=by omega
   by_cases hlt:its.length<24
   .have e6:(its.length:Int)<24:=by omega
    cases bad' with
    |false=>
     have b0:=hid (λx j' bad'=>J.out.next hlt (x:=x) (j':=j') (bad':=bad'));clear J;go_wp2_with fail;refine(b8.out wr j false D a8.out B).mono ?_;rintro en I ⟨S,y,j4,E,rfl,e1,b2⟩;have a7:=hid (b0.out y j4 E b2)
     have b7:Hid (E=true\/(WfC SC/\TcV w base (.slice a0 SC.length cap0) (SC.map toX))):=by
      refine hid (Or.inr ?_);obtain h|h:=a8.out
      .cases h
      .exact h
     have M:But (· =b) w I:=D.trans S;have G:I.ownsRow w.heap.size 219 5 (.slice ao its.length cap) its.length (cd its):=ah v S (λg hg h=>by have:=aC v g hg;omega);have O:=aC G;have f7:=M.size;have f8:=S.size;clear b2 b0 h4 h3;unfold itV;go_wp2_with (at_builtin;refine wpList_append_lies _ rfl _ _ _ rfl w.heap.size 219 i0 _ 5 48 (by kernel_rfl) e5 e9 f0 f1 rfl (by omega) _ its.length (cd its) rfl ((G.alloc _).alloc _) ⟨I.heap.size+1,0,none⟩ 1 1 [.int .i64 y.place,.int .u8 y.op.toNat,.int .u8 y.cls.toNat,.int .i64 y.num,.slice y.pa y.pn y.pc] rfl rfl (iO (cs:=#[.int .i64 y.place,.int .u8 y.op.toNat,.int .u8 y.cls.toNat,.int .i64 y.num,.slice y.pa y.pn y.pc]) (t:=219) (fr:=(0,0)) (aw (by simp) _)) (by simp[Value.oneCell']) (by omega) (by unfold maxLen;omega) (by omega) (by simp;omega) (I.heap.size+2) (by simp) ?_)
     intro gg L w5 Z C e4 e7;have b3:But (λk'=>(Value.slice ao its.length cap).ownBlock=some k') I w5:=((ag _ _ _).trans (ag _ _ _)).trans (bD C);have a2:But (· =b) w w5:=M.next b3 (λk' hk' h=>absurd (O k' h) (by omega));have e2:=e1.but b3 (λh=>by have:=O _ h;omega)
     have a3:ItB w5 w.heap.size (.slice (some ⟨gg,0,none⟩) (its++ [y]).length L) (its++ [y]):=by
      unfold ItB;rw[aV,gL];exact Z
     have a5:w5.heap[I.heap.size]?=some (.cells #[.int .i64 y.place,.int .u8 y.op.toNat,.int .u8 y.cls.toNat,.int .i64 y.num,.slice y.pa y.pn y.pc] 219):=by
      have h1:((I.alloc (.cells #[.int .i64 y.place,.int .u8 y.op.toNat,.int .u8 y.cls.toNat,.int .i64 y.num,.slice y.pa y.pn y.pc] 219)).alloc (.cells #[.int .i64 y.place,.int .u8 y.op.toNat,.int .u8 y.cls.toNat,.int .i64 y.num,.slice y.pa y.pn y.pc] 219)).heap[I.heap.size]?=some (.cells #[.int .i64 y.place,.int .u8 y.op.toNat,.int .u8 y.cls.toNat,.int .i64 y.num,.slice y.pa y.pn y.pc] 219):=by
       rw[Below.heap_alloc _ _ _ (by simp)];exact bj I _
      exact((bD C).block _ (ae h1) (λh=>by have:=bB G _ h;omega)).trans h1
     obtain⟨x0,x1,x2,x3,x4⟩:=bI a5;have a4:ay y.op<=3:=by unfold ay;split;omega;split;omega;split<;>omega
     have T:=lW y.op w5;obtain⟨ar,e3⟩: ∃ar,ay y.op=ar:=⟨_,rfl⟩;rw[e3]at T a4 a7;have b6:=hid T;clear T C e4;go_wp2_with fail;refine b6.out.mono ?_;rintro en wx ⟨rfl,b4⟩;rw[b4];clear b4 wx x0 x1 x2 x3 x4;go_wp2_with fail
     go_roundg (24-(its.length+1))
     case measure=>omega
     case rel=>exact⟨some ⟨gg,0,none⟩,L,j4,E,its++ [y],m+ar,by simp,by simp;omega,by omega,by simp;omega,by simp;omega,by simp;omega,a2,e2,a3,b7,a7⟩
    |true=>
     have hE:=J.out.full (Or.inl rfl);have HE:=hid hE;clear J hE;go_wp2_with fail;refine(jH b s j true _ _ v2 _ j B).mono ?_;rintro en w6 ⟨rfl,A,X⟩;go_wp2_with fail;have z:ItB w6 w.heap.size (.slice ao its.length cap) its:=ah v A (λg hg h=>by have:=aC v g hg;omega);have b5:=(A).size;refine(j6 w.heap.size its ao cap w6 (by omega) z).mono ?_;rintro en P ⟨l,d,c,a,b1,rfl,p,f⟩;have Q:=hid f;have n:But (· =b) w P:=(D.trans A).next l (λ_ _ h=>h.elim);have H:=(X).but l (λh=>h);have r:ItB P w.heap.size (.slice d a.length c) a:=dh p (by omega);have F:a.length<=24:=by have:=f.len;omega
     have a6:w.heap.size<=(w6).heap.size:=by omega
     clear f p;go_wp2_with fail;exact cV (.slice d a.length c) results146 rfl rfl ⟨n,d,c,a,_,_,rfl,H,r,F,Or.inr ⟨rfl,by simpa using HE.out⟩⟩
   .have e6: ¬(its.length:Int)<24:=by omega
    have hE:=J.out.full (Or.inr hlt);have HE:=hid hE;clear J hE;go_wp2_with fail;refine(jH b s j bad' _ _ v2 _ j B).mono ?_;rintro en w6 ⟨rfl,A,X⟩;go_wp2_with fail;have z:ItB w6 w.heap.size (.slice ao its.length cap) its:=ah v A (λg hg h=>by have:=aC v g hg;omega);have b5:=(A).size;refine(j6 w.heap.size its ao cap w6 (by omega) z).mono ?_;rintro en P ⟨l,d,c,a,b1,rfl,p,f⟩;have Q:=hid f;have n:But (· =b) w P:=(D.trans A).next l (λ_ _ h=>h.elim);have H:=(X).but l (λh=>h);have r:ItB P w.heap.size (.slice d a.length c) a:=dh p (by omega);have F:a.length<=24:=by have:=f.len;omega
    have a6:w.heap.size<=(w6).heap.size:=by omega
    clear f p;go_wp2_with fail;exact cV (.slice d a.length c) results146 rfl rfl ⟨n,d,c,a,_,_,rfl,H,r,F,Or.inr ⟨rfl,by rw[HE.out];simp⟩⟩
end
end Go.Proofs.YtpfkkmacakjmbaaGreatDoor
