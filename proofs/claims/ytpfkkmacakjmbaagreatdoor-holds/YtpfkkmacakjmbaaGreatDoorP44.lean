import Derived.Test.YtpfkkmacakjmbaaGreatDoorP30
import Derived.Deep.Cut
set_option maxRecDepth 100000
set_option maxHeartbeats 6400000
set_option linter.unusedSimpArgs false
set_option linter.unusedVariables false
namespace Go.Proofs.YtpfkkmacakjmbaaGreatDoor
section
open Go Go.RowKit Sp
attribute [local go_sem ↓] Go.wp_at_zero Go.wp_at_succ
def g9 (S:List UInt8) (i:Nat) (l:List UInt8):Prop:= ∀k c,l[k]?=some c→S[i+k]?=some c
theorem g9.left {S:List UInt8} {i:Nat} {a b:List UInt8} (h:g9 S i (a++b)):g9 S i a:=fun k c hk=>h k c (by rw[List.getElem?_append_left (List.getElem?_eq_some_iff.1 hk).1];exact hk)
theorem g9.right {S:List UInt8} {i:Nat} {a b:List UInt8} (h:g9 S i (a++b)):g9 S (i+a.length) b:=fun k c hk=>by
 have:=h (a.length+k) c (by rw[List.getElem?_append_right (by omega)];simpa using hk);rw[Nat.add_assoc];exact this
theorem AO (bi:Nat) (cs:List Cls) (S:List UInt8) (i:Nat) (r:List UInt8) (e:UInt8) (w:World) (hI:gj w bi cs) (hn:cs.length≤4) (hr: ∀c∈r,okT cs.length c=true∧c≠e) (hS:g9 S i (r++ [e])) (hl:S.length≤1000000):
  Calls Tryz.prog 54 #[.pointer (some ⟨bi,0,none⟩),.string ⟨S.toArray⟩,.int .i64 i,.int .u8 e.toNat] w fun en w'=>en= .returned (.tuple #[.string ⟨r.toArray⟩,.int .i64 ((i+r.length+1:Nat):Int)])∧But (fun _=>False) w w':=by
 obtain⟨B,hB⟩: ∃B:ByteArray,(⟨S.toArray⟩:ByteArray)=B:=⟨_,rfl⟩;have b3:B.size=S.length:=by rw[←hB];show S.toArray.size=_;simp
 have a7:Hid (∀(k:Nat) (c:UInt8),S[k]?=some c→(∀h,B[k]'h=c)∧B.extract k (k+1)=⟨#[c]⟩∧k<S.length):=fun k c hk=>by
  obtain⟨a2,rfl⟩:=List.getElem?_eq_some_iff.1 hk;subst hB;exact⟨fun h=>mC S _ a2 _,mE S k a2,a2⟩
 have b1:=hid hI;have HS:=hid hS;have HR:=hid hr;have b4:=(a7.out _ _ (hS r.length e (by simp))).2.2;rw[hB];clear hB hS hI hr
 go_in
 go_wp2_with fail
 go_loopg [2,10] r.length (fun mm is ts wr=> ∃(n:Nat) (T:List UInt8),is= .int .i64 n∧ts= .string ⟨T.toArray⟩∧Hid (T=r.take (n-i))∧i≤n∧n+mm=i+r.length∧But (fun _=>False) w wr)
 case atStart=>exact⟨i,[],rfl,rfl,by show []=_;simp,by omega,by omega,But.refl _ _⟩
 case round=>
  obtain⟨n,T,rfl,rfl,a6,f4,e4,a1⟩:=hrel;have e9:T.length≤1000000:=by rw[a6.out,List.length_take];omega
  have f5:(0:Int)≤(n:Int):=by omega
  by_cases a2:n<i+r.length
  ·obtain⟨c,hc⟩: ∃c,r[n-i]?=some c:=⟨_,List.getElem?_eq_getElem (by omega)⟩;have a0:=HS.out (n-i) c (by rw[List.getElem?_append_left (by omega)];exact hc);rw[show i+(n-i)=n from by omega]at a0;obtain⟨hg,f2,b6⟩:=a7.out _ _ a0;obtain⟨a3,e5⟩:=HR.out c (List.mem_of_getElem? hc);have c7:(n:Int)<(B.size:Int):=by rw[b3];omega
   have e0:n<B.size:=by omega
   have e8:=dj ((n:Int)+1) (by omega) (by omega);have f3:(n:Int)≤(n:Int)+1:=by omega
   have d6:(n:Int)+1≤(B.size:Int):=by omega
   have f1:((c.toNat:Int)!=(e.toNat:Int))=true:=by
    rw[bne_iff_ne];intro h;exact e5 (UInt8.toNat_inj.1 (by omega))
   have f6:=fE T c;have f7:(⟨T.toArray⟩:ByteArray).size+(⟨#[c]⟩:ByteArray).size≤2000000:=by show T.toArray.size+1≤_;simp;omega
   have a5:Hid (T++ [c]=r.take (n+1-i)):=by
    show _=_
    rw[a6.out,show n+1-i=n-i+1 from by omega,List.take_add_one,hc]
    rfl
   clear hc a0;rcases cR.1 a3 with h1|h1|h1|h1
   ·have e1:((c.toNat:Int)!=105)=false:=by rw[h1];rfl
    clear h1 a3;go_wp2_with fail
    go_roundg (i+r.length-(n+1))
    case measure=>omega
    case rel=>exact⟨n+1,T++ [c],by simp,rfl,a5,by omega,by omega,a1⟩
   ·have e1:((c.toNat:Int)!=105)=true:=by rw[bne_iff_ne];omega
    have e2:((c.toNat:Int)!=122)=true:=by rw[bne_iff_ne];omega
    have e3:((c.toNat:Int)!=45)=true:=by rw[bne_iff_ne];omega
    have hC:isC c=true:=bB.2 (by omega);have b2:=hid (dr c);rw[hC]at b2;obtain⟨v0,v1,v2,a8,a4⟩:=b1.out.but a1;obtain⟨ac,cc,rfl⟩:=aq a4;have c0:=ce0 a8;have f0:=ae a8
    have e6:IntKind.u8.wrap ((c.toNat:Int)-65)=((c.toNat-65:Nat):Int):=by
     rw[IntWalk.u8_in _ (by omega)];omega
    have b5: ¬((cs.length:Int)≤((c.toNat-65:Nat):Int)):=by omega
    have e7:=dj ((c.toNat-65:Nat):Int) (by omega) (by omega);clear a3 hC a8 a4 b1;go_wp2_with fail;refine(b2.out _).mono ?_;rintro en w1 ⟨rfl,rfl⟩;go_wp2_with fail
    go_roundg (i+r.length-(n+1))
    case measure=>omega
    case rel=>exact⟨n+1,T++ [c],by simp,rfl,a5,by omega,by omega,a1⟩
   ·have e1:((c.toNat:Int)!=105)=true:=by rw[h1];rfl
    have e2:((c.toNat:Int)!=122)=false:=by rw[h1];rfl
    clear h1 a3;go_wp2_with fail
    go_roundg (i+r.length-(n+1))
    case measure=>omega
    case rel=>exact⟨n+1,T++ [c],by simp,rfl,a5,by omega,by omega,a1⟩
   ·have e1:((c.toNat:Int)!=105)=true:=by rw[h1];rfl
    have e2:((c.toNat:Int)!=122)=true:=by rw[h1];rfl
    have e3:((c.toNat:Int)!=45)=false:=by rw[h1];rfl
    clear h1 a3;go_wp2_with fail
    go_roundg (i+r.length-(n+1))
    case measure=>omega
    case rel=>exact⟨n+1,T++ [c],by simp,rfl,a5,by omega,by omega,a1⟩
  ·have b0:n=i+r.length:=by omega
   have a0:=HS.out r.length e (by simp);rw[←b0]at a0;obtain⟨hg,_,b6⟩:=a7.out _ _ a0;have c7:(n:Int)<(B.size:Int):=by rw[b3];omega
   have b5: ¬((B.size:Int)≤(n:Int)):=by omega
   have e0:n<B.size:=by omega
   have e8:=dj ((n:Int)+1) (by omega) (by omega);have hT:T=r:=by rw[a6.out,List.take_of_length_le (by omega)]
   have HN:=hid b0;subst hT;clear a0 b0 e4 a6 a2;go_wp2_with fail;exact bodyPost_ret (v:= .tuple #[.string ⟨T.toArray⟩,.int .i64 ((n:Int)+1)]) (by simp[results,Tryz.results54,go_sem]) rfl ⟨by rw[HN.out];simp,a1⟩
theorem yE:(Tryz.prog.info? 91).map (fun i=>(i.zero,i.size,i.bytes))=some (some (.agg #[.bool false,.string ⟨#[]⟩,.string ⟨#[]⟩]),3,40):=by kernel_rfl
def tdC (t:List St):List Value:=t.flatMap fun o=>(stV o).toList
theorem so (t:List St) (o:St):tdC (t++ [o])=tdC t++(stV o).toList:=by simp[tdC]
theorem uq {n:Nat} {c:UInt8} (h:okT n c=true):c.toNat≠124∧c.toNat≠44∧c.toNat≠63∧c.toNat≠59∨4<n:=by
 rcases cR.1 h with h|h|h|h<;>omega
theorem yF (bi:Nat) (cs:List Cls) (S:List UInt8) (i:Nat) (t:List St) (w:World) (hI:gj w bi cs) (hn:cs.length≤4) (ht: ∀s l,some (s,l)∈t→(∀c∈s,okT cs.length c=true)∧ ∀c∈l,okT cs.length c=true) (hS:g9 S i (aQ t)) (hl:S.length≤1000000) (htl:t.length≤1000):
  Calls Tryz.prog 29 #[.pointer (some ⟨bi,0,none⟩),.string ⟨S.toArray⟩,.int .i64 i] w fun en w'=>But (fun _=>False) w w'∧ ∃v,en= .returned (.tuple #[v,.int .i64 ((i+(aQ t).length:Nat):Int)])∧w'.ownsRow w.heap.size 91 3 v t.length (tdC t):=by
 obtain⟨i0,f2,f4,f5,f6⟩:=info_parts yE;obtain⟨B,hB⟩: ∃B:ByteArray,(⟨S.toArray⟩:ByteArray)=B:=⟨_,rfl⟩;have g6:B.size=S.length:=by rw[←hB];show S.toArray.size=_;simp
 have b2:Hid (∀(k:Nat) (c:UInt8),S[k]?=some c→(∀h,B[k]'h=c)∧k<S.length):=fun k c hk=>by
  obtain⟨b1,rfl⟩:=List.getElem?_eq_some_iff.1 hk;subst hB;exact⟨fun h=>mC S _ b1 _,b1⟩
 have a5:=hid (fun j r e w1 (hBw:But (fun _=>False) w w1) (hr: ∀c∈r,okT cs.length c=true∧c≠e) (h:g9 S j (r++ [e]))=>AO bi cs S j r e w1 (hI.but hBw) hn hr h hl);rw[hB]at a5⊢;have HS:=hid hS;have HT:=hid ht;clear hB hS hI ht
 go_in
 go_wp2_with fail
 go_loopg [2,8] t.length (fun mm is ts wr=> ∃(n k:Nat),is= .int .i64 n∧Hid (n=i+((t.take k).flatMap dP).length)∧k+mm=t.length∧wr.ownsRow w.heap.size 91 3 ts k (tdC (t.take k))∧But (fun _=>False) w wr)
 case atStart=>exact⟨i,0,rfl,by show i=_;simp,by omega,by simpa[tdC]using du w _ _ _,But.refl _ _⟩
 case round=>
  obtain⟨n,k,rfl,HN,hk,hO,a7⟩:=hrel;obtain⟨ao,cap,rfl⟩:=aq hO
  by_cases b1:k<t.length
  ·obtain⟨o,ho⟩: ∃o,t[k]?=some o:=⟨_,List.getElem?_eq_getElem b1⟩;have b5:t.take (k+1)=t.take k++ [o]:=by rw[List.take_add_one,ho];rfl
   have a3:g9 S n (dP o):=by
    have h:=HS.out
    have e:aQ t=(t.take k).flatMap dP++(dP o++((t.drop (k+1)).flatMap dP++ [59])):=by
     unfold aQ
     conv=>lhs;rw[←List.take_append_drop (k+1) t]
     rw[b5];simp
    rw[e]at h;rw[HN.out];exact h.right.left
   have b0:(dP o).length+n≤S.length:=by
    have h1:0<(dP o).length:=by
     cases o with
     |none=>decide
     |some st=>obtain⟨a,b⟩:=st;show 0<(a++ [124]++b++ [44]).length;rw[List.length_append];simp
    have h2:=a3 ((dP o).length-1) _ (List.getElem?_eq_getElem (by omega));have h3:=(List.getElem?_eq_some_iff.1 h2).1;omega
   have b4: ∀m,m=n+(dP o).length→m=i+((t.take (k+1)).flatMap dP).length:=fun m hm=>by
    rw[hm,b5,HN.out];simp;omega
   have f1:=aj hO;have g5:(0:Int)≤(n:Int):=by omega
   have hz:=a7.size
   cases o with
   |none=>
    obtain⟨g0,l0⟩:=b2.out _ _ (a3 0 63 rfl);obtain⟨g1,l1⟩:=b2.out _ _ (a3 1 44 rfl);simp only[Nat.add_zero]at g0 l0;have q0:(n:Int)<(B.size:Int):=by omega
    have q1:(n:Int)+1<(B.size:Int):=by omega
    have q2: ¬((B.size:Int)≤(n:Int)+1):=by omega
    have q3:n<B.size:=by omega
    have q4:n+1<B.size:=by omega
    have w1:=dj ((n:Int)+1) (by omega) (by omega);have w2:=dj ((n:Int)+2) (by omega) (by omega);have b6:=hid b4;clear a3 b4 ho b0;go_wp2_with (at_builtin;refine wpList_append_lies _ rfl _ _ _ rfl w.heap.size 91 i0 _ 3 40 (by kernel_rfl) f2 f4 f5 f6 rfl (by omega) _ k (tdC (t.take k)) rfl (hO.alloc _) ⟨wr.heap.size,0,none⟩ 1 1 [.bool false,.string ⟨#[]⟩,.string ⟨#[]⟩] rfl rfl (World.news_of_block (cs:=#[.bool false,.string ⟨#[]⟩,.string ⟨#[]⟩]) (t:=91) (fr:=(0,0)) (au (by simp) _)) (by simp[Value.oneCell']) (by omega) (by unfold maxLen;omega) (by omega) (by simp;omega) (wr.heap.size+1) (by simp) ?_)
    intro gg d6 w5 a4 a0 a6 e6;have e4:But (fun j=>(Value.slice ao k cap).ownBlock=some j) wr w5:=(But.alloc _ _ _).trans (aX a0);have e3:But (fun _=>False) w w5:=a7.next e4 (fun j hj h=>absurd (f1 j h) (by omega));clear a0 a6;go_wp2_with fail
    go_roundg (t.length-(k+1))
    case measure=>omega
    case rel=>exact⟨n+2,k+1,by simp,b6.out _ rfl,by omega,by rw[b5,so];exact a4,e3⟩
   |some st=>
    obtain⟨s,l⟩:=st;obtain⟨hs,e5⟩:=HT.out s l (List.mem_of_getElem? ho);have hb:=fun c hc=>uq (hs c hc)
    have e9:=fun c hc=>uq (e5 c hc)
    have a1:g9 S n (s++ [124]):=by
     have:dP (some (s,l))=(s++ [124])++(l++ [44]):=by simp[dP]
     rw[this]at a3;exact a3.left
    have a2:g9 S (n+s.length+1) (l++ [44]):=by
     have:dP (some (s,l))=(s++ [124])++(l++ [44]):=by simp[dP]
     rw[this]at a3;have h:=a3.right;simpa[Nat.add_assoc]using h
    obtain⟨c0,f0,g3,g4⟩: ∃c0,S[n]?=some c0∧c0.toNat≠63∧c0.toNat≠59:=by
     cases s with
     |nil=>exact⟨124,a1 0 124 rfl,by decide,by decide⟩
     |cons c s=>
      have:=hb c (List.mem_cons_self ..);exact⟨c,a1 0 c rfl,by omega,by omega⟩
    obtain⟨g0,l0⟩:=b2.out _ _ f0;have q0:(n:Int)<(B.size:Int):=by omega
    have q3:n<B.size:=by omega
    have e1:((c0.toNat:Int)==63)=false:=aM 63 (by omega);have e2:((c0.toNat:Int)!=59)=true:=by rw[bne_iff_ne];omega
    have e8:=hid (a5.out n s 124 wr a7 (fun c hc=>⟨hs c hc,fun h=>by have:=hb c hc;have e:c.toNat=124:=(congrArg UInt8.toNat h).trans rfl;omega⟩) a1);have c7:=hid (fun w1 h=>a5.out (n+s.length+1) l 44 w1 h (fun c hc=>⟨e5 c hc,fun h=>by have:=e9 c hc;have e:c.toNat=44:=(congrArg UInt8.toNat h).trans rfl;omega⟩) a2);have b6:=hid b4;have ol:(dP (some (s,l))).length=s.length+1+l.length+1:=by simp[dP];omega
    clear a3 b4 ho b0 f0 a1 a2 hb e9 hs e5;go_wp2_with fail;refine e8.out.mono ?_;rintro en w1 ⟨rfl,b3⟩;have j1: ¬((n+s.length+1:Nat):Int)<0:=by omega
    obtain⟨J,hJ⟩: ∃J:Nat,n+s.length+1=J:=⟨_,rfl⟩;rw[hJ]at c7 j1⊢;have HJ:=hid hJ;clear hJ e8;go_wp2_with fail;refine(c7.out _ (a7.trans b3)).mono ?_;rintro en w2 ⟨rfl,e0⟩;have j2: ¬((J+l.length+1:Nat):Int)<0:=by omega
    obtain⟨K,hK⟩: ∃K:Nat,J+l.length+1=K:=⟨_,rfl⟩;rw[hK]at j2⊢;have HK:=hid hK;have f7:=ah (ah hO b3 (fun _ _ h=>h)) e0 (fun _ _ h=>h);have a8:=(a7.trans b3).trans e0;have g2:=a8.size;clear hK c7 b3 e0;go_wp2_with (at_builtin;refine wpList_append_lies _ rfl _ _ _ rfl w.heap.size 91 i0 _ 3 40 (by kernel_rfl) f2 f4 f5 f6 rfl (by omega) _ k (tdC (t.take k)) rfl (f7.alloc _) ⟨w2.heap.size,0,none⟩ 1 1 [.bool true,.string ⟨s.toArray⟩,.string ⟨l.toArray⟩] rfl rfl (World.news_of_block (cs:=#[.bool true,.string ⟨s.toArray⟩,.string ⟨l.toArray⟩]) (t:=91) (fr:=(0,0)) (au (by simp) _)) (by simp[Value.oneCell']) (by omega) (by unfold maxLen;omega) (by omega) (by simp;omega) (w2.heap.size+1) (by simp) ?_)
    intro gg d6 w5 a4 a0 a6 e6;have e4:But (fun j=>(Value.slice ao k cap).ownBlock=some j) w2 w5:=(But.alloc _ _ _).trans (aX a0);have e3:But (fun _=>False) w w5:=a8.next e4 (fun j hj h=>absurd (f1 j h) (by omega));clear a0 a6;go_wp2_with fail
    go_roundg (t.length-(k+1))
    case measure=>omega
    case rel=>exact⟨K,k+1,rfl,b6.out _ (by rw[←HK.out,←HJ.out,ol];omega),by omega,by rw[b5,so];exact a4,e3⟩
  ·have f8:k=t.length:=by omega
   have f3:(aQ t).length=(t.flatMap dP).length+1:=by simp[aQ]
   have e7:n=i+(t.flatMap dP).length:=by rw[HN.out,List.take_of_length_le (by omega)]
   have a3:=HS.out (t.flatMap dP).length 59 (by simp[aQ]);rw[←e7]at a3;obtain⟨g0,l0⟩:=b2.out _ _ a3;have q0:(n:Int)<(B.size:Int):=by omega
   have q3:n<B.size:=by omega
   have q4: ¬((B.size:Int)≤(n:Int)):=by omega
   have w1:=dj ((n:Int)+1) (by omega) (by omega);have HF:=hid (And.intro f3 e7);rw[List.take_of_length_le (by omega)]at hO;subst f8;clear a3 f3 e7 HN b1 hk;go_wp2_with fail;exact bodyPost_ret (v:= .tuple #[.slice ao t.length cap,.int .i64 ((n:Int)+1)]) (by simp[results,Tryz.results29,go_sem]) rfl ⟨a7,_,by rw[HF.out.1,HF.out.2,show(((i+(t.flatMap dP).length:Nat):Int)+1)=(i:Int)+(((t.flatMap dP).length+1:Nat):Int)from by omega],hO⟩
theorem lM {cs:List Cls} {a b:List UInt8} (h:leL cs a b):cr cs a b=true:=by
 have hl:=dY h;refine oe (by omega) (fun k hk=> ?_);rw[show a.length-b.length+k=k from by omega];exact fH k h
theorem sp (bi:Nat) (cs:List Cls) (s l s' l':List UInt8) (w:World) (hI:gj w bi cs) (hw:WfC cs) (hn:cs.length≤4) (hs: ∀c∈s,okT cs.length c=true) (hl: ∀c∈l,okT cs.length c=true) (h1:leL cs s s') (h2:leL cs l l') (n1:s.length≤100) (n2:l.length≤100):
  Calls Tryz.prog 55 #[.pointer (some ⟨bi,0,none⟩),.agg #[.bool true,.string ⟨s.toArray⟩,.string ⟨l.toArray⟩],.agg #[.bool true,.string ⟨s'.toArray⟩,.string ⟨l'.toArray⟩]] w fun en w'=>en= .returned (.bool true)∧But (fun _=>False) w w':=by
 have m1:=dY h1;have m2:=dY h2;have a6:=hid (fun w1 (h:But (fun _=>False) w w1)=>mD bi cs s s' w1 (hI.but h) hw hn hs (by omega) (by omega));have a7:=hid (fun w1 (h:But (fun _=>False) w w1)=>mD bi cs l l' w1 (hI.but h) hw hn hl (by omega) (by omega));rw[lM h1]at a6;rw[lM h2]at a7;have z1:(⟨s.toArray⟩:ByteArray).size=(⟨s'.toArray⟩:ByteArray).size:=by show s.toArray.size=s'.toArray.size;simpa using m1
 have z2:(⟨l.toArray⟩:ByteArray).size=(⟨l'.toArray⟩:ByteArray).size:=by show l.toArray.size=l'.toArray.size;simpa using m2
 have y1:(((⟨s.toArray⟩:ByteArray).size:Int)!=((⟨s'.toArray⟩:ByteArray).size:Int))=false:=by rw[z1];simp
 have y2:(((⟨l.toArray⟩:ByteArray).size:Int)!=((⟨l'.toArray⟩:ByteArray).size:Int))=false:=by rw[z2];simp
 generalize (⟨s.toArray⟩:ByteArray)=A at*;generalize (⟨s'.toArray⟩:ByteArray)=A' at*;generalize (⟨l.toArray⟩:ByteArray)=L at*;generalize (⟨l'.toArray⟩:ByteArray)=L' at*;have a8:But (fun _=>False) w ((w.alloc (.cells #[.bool true,.string A,.string L] 91)).alloc (.cells #[.bool true,.string A',.string L'] 91)):=(But.alloc _ _ _).trans (But.alloc _ _ _);have a0:((w.alloc (.cells #[.bool true,.string A,.string L] 91)).alloc (.cells #[.bool true,.string A',.string L'] 91)).heap[w.heap.size]?=some (.cells #[.bool true,.string A,.string L] 91):=(But.alloc (fun _=>False) _ _).kp (heap_alloc_new w _);have a3:((w.alloc (.cells #[.bool true,.string A,.string L] 91)).alloc (.cells #[.bool true,.string A',.string L'] 91)).heap[w.heap.size+1]?=some (.cells #[.bool true,.string A',.string L'] 91):=au (by simp) _
 have a5:=hid a8;have HG:=hid (And.intro a0 a3);clear a8 a0 a3 z1 z2 h1 h2 hI hs hl m1 m2
 go_in
 go_wp2_with fail;refine(a6.out _ a5.out).mono ?_;rintro en w1 ⟨rfl,a4⟩;obtain⟨a0,a3⟩:=HG.out;have a1:=a4.kp a0;have a2:=a4.kp a3;have x2:=ce2 a1;have y3:=ce2 a2;have l1:=ae a1;have l2:=ae a2;have b0:=a5.out.trans a4;clear a4 HG a0 a3 a1 a2 a5 a6;go_wp2_with fail;refine(a7.out _ b0).mono ?_;rintro en w2 ⟨rfl,b1⟩;have b2:=b0.trans b1;clear x2 y3 a7;go_wp2_with fail
 all_goals go_ret
 all_goals exact⟨rfl,b2⟩
theorem dx {t:List St} {j q:Nat} {o:St} (h:t[j]?=some o) (hq:q<3):(tdC t)[j*3+q]?=(stV o).toList[q]?:=
 el (fun o:St=>(stV o).toList) 3 (fun o=>by cases o<;>rfl) t j q o h hq
theorem sq {cs:List Cls} {t:List St} {j:Int} {s l:List UInt8} (h:dS cs t j (s,l)):j<0∨ ∃(k:Nat) (s' l':List UInt8),j=k∧k<t.length∧t[k]?=some (some (s',l'))∧leL cs s s'∧leL cs l l':=by
 rcases h with h| ⟨⟨s',l'⟩,h1,h2,h3⟩
 ·exact Or.inl h
 ·rcases Int.lt_or_le j 0 with h0|h0
  ·exact Or.inl h0
  ·exact Or.inr ⟨j.toNat,s',l',by omega,(List.getElem?_eq_some_iff.1 h1).1,h1,h2,h3⟩
theorem yG (bi:Nat) (im:Img) (bd:Bod) (ak:Option Addr) (capk b3:Nat) (v:Value) (t:List St) (i:Nat) (st lo:List UInt8) (w:World) (hI:dk w bi im) (hW:WfI im) (hbd:WfB im.classes im.sigs bd) (hc:w.ownsRow 0 144 4 (.slice ak bd.code.length capk) bd.code.length (cz bd.code)) (hG:kU im bd t) (hwf:wfT im.classes.length bd.locals.length bd.code.length t) (hO:w.ownsRow b3 91 3 v t.length (tdC t)) (hi:t[i]?=some (some (st,lo))):
  Calls Tryz.prog 57 #[.pointer (some ⟨bi,0,none⟩),.agg #[.int .i64 bd.cls,.int .i64 bd.meth,.string ⟨bd.locals.toArray⟩,.slice ak bd.code.length capk,.slice none 0 0],v,.int .i64 i] w fun en w'=>en= .returned (.bool true)∧But (fun _=>False) w w':=by
 have g4:=hbd.len;have l5:=hG.len;have l3:=(List.getElem?_eq_some_iff.1 hi).1;obtain⟨X,hX⟩: ∃X,bd.code[i]?=some X:=⟨_,List.getElem?_eq_getElem (by omega)⟩;have i2:=hbd.code X (List.mem_of_getElem? hX);obtain⟨s',l',he,i7,j0⟩:=hG.go i X st lo hX hi;have e7:=hwf.okS g4.2 i st lo hi;have e3:=jo hW i2 ⟨e7.1,e7.2.1,e7.2.2.1⟩ he;obtain⟨av,cv,rfl⟩:=aq hO;obtain⟨gt,e1,a6,l4,g5⟩:=aD hO (by omega)
 cases e1
 obtain⟨gc,e1,f6,k3,f7⟩:=aD hc (by omega)
 cases e1
 have q0:w.cell? ⟨gt,i*3,none⟩=some (.bool true):=g5 _ _ (dx (q:=0) hi (by omega));have q1:w.cell? ⟨gt,i*3+1,none⟩=some (.string ⟨st.toArray⟩):=g5 _ _ (dx (q:=1) hi (by omega));have q2:w.cell? ⟨gt,i*3+2,none⟩=some (.string ⟨lo.toArray⟩):=g5 _ _ (dx (q:=2) hi (by omega));have p0:w.cell? ⟨gc,i*4,none⟩=some _:=f7 _ _ (dq (k:=0) hX (by omega));have p1:w.cell? ⟨gc,i*4+1,none⟩=some _:=f7 _ _ (dq (k:=1) hX (by omega));have p2:w.cell? ⟨gc,i*4+2,none⟩=some _:=f7 _ _ (dq (k:=2) hX (by omega));have p3:w.cell? ⟨gc,i*4+3,none⟩=some _:=f7 _ _ (dq (k:=3) hX (by omega));have f0:=hid (fun(wx:World) (h:But (fun _=>False) w wx)=>sQ bi im bd (some ⟨gc,0,none⟩) bd.code.length capk X st lo wx (hI.but h) hW hbd i2 e7.1 (by have:=e7.2.2.2;omega) e7.2.2.1 trivial)
 rw[he]at f0;simp only[uJ]at f0;have i4:=hid (xq X i);have f4:=fun(k:Nat) (s1 l1:List UInt8) (hk:t[k]?=some (some (s1,l1))) (g1:leL im.classes s' s1) (g2:leL im.classes l' l1) (wx:World) (h:But (fun _=>False) w wx)=>sp bi im.classes s' l' s1 l1 wx (hI.but h).cls hW.cls hW.nc e3.1.1 e3.1.2.1 g1 g2 (by have:=dY g1;have:=(hwf.okS g4.2 k s1 l1 hk).2.2.2;omega) (by have:=e3.1.2.2;have:=hbd.loc.1;omega)
 have b5:=hid g5;have g6:=sq i7;have e8:=sq j0;generalize (eg X i).1=wx at*;generalize (eg X i).2=wy at*;have e0:(w.alloc (.cells #[.int .i64 bd.cls,.int .i64 bd.meth,.string ⟨bd.locals.toArray⟩,.slice (some ⟨gc,0,none⟩) bd.code.length capk,.slice none 0 0] 52)).heap[w.heap.size]?=some (.cells #[.int .i64 bd.cls,.int .i64 bd.meth,.string ⟨bd.locals.toArray⟩,.slice (some ⟨gc,0,none⟩) bd.code.length capk,.slice none 0 0] 52):=heap_alloc_new w _;have a4:But (fun _=>False) w (w.alloc (.cells #[.int .i64 bd.cls,.int .i64 bd.meth,.string ⟨bd.locals.toArray⟩,.slice (some ⟨gc,0,none⟩) bd.code.length capk,.slice none 0 0] 52)):=But.alloc _ _ _
 have e5:=hid f4;have HR:=hid (And.intro g6 e8);have l0:(i:Int)<(t.length:Int):=by omega
 have k9:(i:Int)<(bd.code.length:Int):=by omega
 clear i7 j0 g6 e8 f4 g5 f7 hI hW hbd hc hG hwf hO hi hX i2 he e7 e3
 go_in
 go_wp2_with fail;revert e0 a4;generalize (w.alloc (.cells #[.int .i64 bd.cls,.int .i64 bd.meth,.string ⟨bd.locals.toArray⟩,.slice (some ⟨gc,0,none⟩) bd.code.length capk,.slice none 0 0] 52))=W;intro e0 a4;have b0:=ce0 e0;have b1:=ce1 e0;have b2:=ce2 e0;have h3:=ce3 e0;have b4:=ce4 e0;have e6:=ae e0;have i1:gt<W.heap.size:=Nat.lt_of_lt_of_le a6 a4.size;have e2:gc<W.heap.size:=Nat.lt_of_lt_of_le f6 a4.size;replace q0:=a4.kc q0 a6;replace q1:=a4.kc q1 a6;replace q2:=a4.kc q2 a6;replace p0:=a4.kc p0 f6;replace p1:=a4.kc p1 f6;replace p2:=a4.kc p2 f6;replace p3:=a4.kc p3 f6;have g7:But (fun _=>False) W W.drew:=But.drew _ _
 go_cut [9,10]from 14 (fun s9 s10 wc=> ∃bm,s9= .pointer (some ⟨bm,0,none⟩)∧s10= .bool true∧But (fun _=>False) W wc∧wc.heap[bm]?=some (.cells #[.bool true,.string ⟨s'.toArray⟩,.string ⟨l'.toArray⟩] 91))
 case first=>
  refine aB (But (fun _=>False) W) 18 (by kernel_rfl) ?_
  iterate 11 (refine dt (v:=?_) rfl (by kernel_rfl) (fun _ _ _ h=>h) rfl g7 ?_ ?_;rotate_left;(focus (intro wS h;have Q0:=(h.kc b0 e6);have Q1:=(h.kc b1 e6);have Q2:=(h.kc b2 e6);have Q3:=(h.kc h3 e6);have Q4:=(h.kc b4 e6);have Q5:=(h.kc p0 e2);have Q6:=(h.kc p1 e2);have Q7:=(h.kc p2 e2);have Q8:=(h.kc p3 e2);have Q9:=(h.kc q0 i1);have j7:=(h.kc q1 i1);have k0:=(h.kc q2 i1);clear h;go_simp;try rfl));dsimp only[Act.put];try simp only[aK])
  refine nZ (q:=15) (o:= ?oE11) (oq:= ?oqE11) (rest:= ?rsE11) (restq:= ?rqE11) ?hoE11 ?hqE11 ?hrE11 ?stE11 ?sqE11
  case hoE11=>rfl
  case hqE11=>rfl
  case hrE11=>kernel_rfl
  case' stE11=>
   intro KS hKS;go_simp;refine(f0.out W.drew (a4.trans g7)).mono ?_;rintro en w1 ⟨rfl,e4⟩;have a2:But (fun _=>False) W w1:=g7.trans e4;refine hKS.out _ _ (fun _=>a2) ?_;clear hKS KS
   iterate 3 (refine aG (v:=?_) rfl (by kernel_rfl) (fun _ _ _ h=>h) rfl a2 ?_ ?_;rotate_left;(focus (intro wS h;clear h;go_simp;try rfl));dsimp only[Act.put];try simp only[aK])
   refine ag rfl (by kernel_rfl) ?_;intro KS hKS;go_simp;refine hKS.out _ _ (fun _=>a2.trans (But.alloc _ _ _)) ?_;clear hKS KS;refine ag rfl (by kernel_rfl) ?_;intro KS hKS;go_simp;refine hKS.out _ _ (fun _=>a2.trans (But.alloc _ _ _)) ?_;clear hKS KS;refine ag rfl (by kernel_rfl) ?_;intro KS hKS;go_simp;refine hKS.out _ _ (fun _=>a2.trans (But.alloc _ _ _)) ?_;clear hKS KS;refine aF rfl (by kernel_rfl) ?_;go_wp2_with fail
   go_meet
   case rel=>exact⟨_,rfl,rfl,a2.trans (But.alloc _ _ _),heap_alloc_new _ _⟩
  case' sqE11=>
   intro KS hKS;go_simp;have f3:But (fun _=>False) W (W.alloc (.cells #[.bool false,.string ⟨#[]⟩,.string ⟨#[]⟩] 91)).drew:=(But.alloc _ _ _).trans (But.drew _ _);have i0:(W.alloc (.cells #[.bool false,.string ⟨#[]⟩,.string ⟨#[]⟩] 91)).drew.heap[W.heap.size]?=some (.cells #[.bool false,.string ⟨#[]⟩,.string ⟨#[]⟩] 91):=heap_alloc_new _ _;revert f3 i0;generalize (W.alloc (.cells #[.bool false,.string ⟨#[]⟩,.string ⟨#[]⟩] 91)).drew=Wd;generalize j4:W.heap.size=bm;intro f3 i0;refine hKS.out _ _ (fun _=>f3) ?_;clear hKS KS;refine n8 rfl (by kernel_rfl) (by kernel_rfl) ?_;intro KS hKS;go_simp;refine(f0.out Wd (a4.trans f3)).mono ?_
   rintro en w1 ⟨rfl,e4⟩;have a2:But (fun _=>False) W w1:=f3.trans e4;have a3:=e4.kp i0;refine hKS.out _ _ (fun _=>a2) ?_;clear hKS KS
   iterate 3 (refine n9 (v:=?_) rfl (by kernel_rfl) (fun _ _ _ h=>h) rfl a2 ?_ ?_;rotate_left;(focus (intro wS h;clear h;go_simp;try rfl));dsimp only[Act.put];try simp only[aK])
   refine od ?_;have r0:=ce0 a3;have r1:=ce1 a3;have r2:=ce2 a3;have z0:w1.frozen? ⟨bm,0,none⟩=false:=frozen_of_row w1 bm 0 _ _ a3;have z1:w1.frozen? ⟨bm,1,none⟩=false:=frozen_of_row w1 bm 1 _ _ a3;have z2:w1.frozen? ⟨bm,2,none⟩=false:=frozen_of_row w1 bm 2 _ _ a3;have rlt:=ae a3;have h8: ∀j u (wx:World),But (fun _=>False) W wx→But (fun _=>False) W (wx.setCell ⟨bm,j,none⟩ u):=fun j u wx h=>h.next (But.setB _ _ _ _) (fun k hk e=>by have e:k=bm:=e;omega)
   have b6:=h8 2 (.string ⟨l'.toArray⟩) _ (h8 1 (.string ⟨s'.toArray⟩) _ (h8 0 (.bool true) _ a2));have h0:=heap_setCell_same _ bm 2 _ _ (.string ⟨l'.toArray⟩) (heap_setCell_same _ bm 1 _ _ (.string ⟨s'.toArray⟩) (heap_setCell_same _ bm 0 _ _ (.bool true) a3));refine ag rfl (by kernel_rfl) ?_;intro KS hKS;go_simp;refine hKS.out _ _ (fun _=>b6) ?_;clear hKS KS;refine ag rfl (by kernel_rfl) ?_;intro KS hKS;go_simp;refine hKS.out _ _ (fun _=>b6) ?_;clear hKS KS;refine aF rfl (by kernel_rfl) ?_;go_wp2_with fail
   go_meet
   case rel=>exact⟨bm,rfl,rfl,b6,h0⟩
 case rest=>
  obtain⟨bm,rfl,rfl,c7,h0⟩:=hcut;have b3c:=c7.kc h3 e6;have p0c:=c7.kc p0 e2;have p1c:=c7.kc p1 e2;have p2c:=c7.kc p2 e2;have p3c:=c7.kc p3 e2;have h7:=Nat.lt_of_lt_of_le e6 c7.size;have h9:=Nat.lt_of_lt_of_le e2 c7.size;have f5:=a4.trans c7;clear b0 b1 b2 h3 b4 p0 p1 p2 p3 q0 q1 q2 e0 g7 f0;go_wp2_with fail;refine(i4.out _ (by omega)).mono ?_;rintro en w1 ⟨rfl,e4⟩;have e9:=e4.kp h0;have a0:=f5.trans e4;clear b3c p0c p1c p2c p3c h7 h9 h0 e4 i4 c7 a4 f5;have m0:=ce0 e9;have m1:=ce1 e9;have m2:=ce2 e9;have a8:=ae e9;have a1:gt<w1.heap.size:=Nat.lt_of_lt_of_le a6 a0.size;have i3:=hid e9;clear e9;obtain⟨g6,e8⟩:=HR.out
  rcases g6 with h1| ⟨k1,s1,l1,rfl,j5,g0,i5,i6⟩
  ·have x1: ¬((t.length:Int)≤wx):=by omega
   have x2: ¬(0≤wx):=by omega
   rcases e8 with h2| ⟨k2,s2,l2,rfl,g3,a7,f1,f2⟩
   ·have y1: ¬((t.length:Int)≤wy):=by omega
    have y2: ¬(0≤wy):=by omega
    go_wp2_with fail
    all_goals go_ret
    all_goals exact⟨rfl,a0⟩
   ·have y1: ¬((t.length:Int)≤(k2:Int)):=by omega
    have y2:(0:Int)≤(k2:Int):=by omega
    have y3:(k2:Int)<(bd.code.length:Int):=by omega
    have t0:w1.cell? ⟨gt,k2*3,none⟩=some (.bool true):=a0.kc (b5.out _ _ (dx (q:=0) a7 (by omega))) a6;have t1:w1.cell? ⟨gt,k2*3+1,none⟩=some (.string ⟨s2.toArray⟩):=a0.kc (b5.out _ _ (dx (q:=1) a7 (by omega))) a6;have t2:w1.cell? ⟨gt,k2*3+2,none⟩=some (.string ⟨l2.toArray⟩):=a0.kc (b5.out _ _ (dx (q:=2) a7 (by omega))) a6;have j1:=hid (fun wx h=>e5.out k2 s2 l2 a7 f1 f2 wx h);have h4:But (fun _=>False) w1 w1.drew:=But.drew _ _;clear a7 f1 f2;go_wp2_with fail;refine aB (But (fun _=>False) w1) 7 (by kernel_rfl) ?_
    iterate 6 (refine dt (v:=?_) rfl (by kernel_rfl) (fun _ _ _ h=>h) rfl h4 ?_ ?_;rotate_left;(focus (intro wS h;have q0:=(h.kc m0 a8);have q1:=(h.kc m1 a8);have q2:=(h.kc m2 a8);have q3:=(h.kc t0 a1);have q4:=(h.kc t1 a1);have q5:=(h.kc t2 a1);clear h;go_simp;try rfl));dsimp only[Act.put];try simp only[aK])
    refine ag rfl (by kernel_rfl) ?_;intro KS hKS;go_simp;refine(j1.out _ (a0.trans h4)).mono ?_;rintro en w9 ⟨rfl,b6⟩;have d6:=h4.trans b6;refine hKS.out _ _ (fun _=>d6) ?_;clear hKS KS;refine ag rfl (by kernel_rfl) ?_;intro KS hKS;go_simp;refine hKS.out _ _ nofun ?_;clear hKS KS;refine aF rfl (by kernel_rfl) ?_;go_wp2_with fail
    all_goals go_ret
    all_goals exact⟨rfl,a0.trans d6⟩
  ·have x1: ¬((t.length:Int)≤(k1:Int)):=by omega
   have x2:(0:Int)≤(k1:Int):=by omega
   have x3:(k1:Int)<(bd.code.length:Int):=by omega
   have y0: ¬((t.length:Int)≤wy):=by rcases e8 with h2| ⟨k2,s2,l2,rfl,g3,_⟩<;>omega
   have t0:w1.cell? ⟨gt,k1*3,none⟩=some (.bool true):=a0.kc (b5.out _ _ (dx (q:=0) g0 (by omega))) a6;have t1:w1.cell? ⟨gt,k1*3+1,none⟩=some (.string ⟨s1.toArray⟩):=a0.kc (b5.out _ _ (dx (q:=1) g0 (by omega))) a6;have t2:w1.cell? ⟨gt,k1*3+2,none⟩=some (.string ⟨l1.toArray⟩):=a0.kc (b5.out _ _ (dx (q:=2) g0 (by omega))) a6;have j2:=hid (fun wx h=>e5.out k1 s1 l1 g0 i5 i6 wx h);have h5:But (fun _=>False) w1 w1.drew:=But.drew _ _;clear g0 i5 i6;go_wp2_with fail;refine aB (But (fun _=>False) w1) 7 (by kernel_rfl) ?_
   iterate 6 (refine dt (v:=?_) rfl (by kernel_rfl) (fun _ _ _ h=>h) rfl h5 ?_ ?_;rotate_left;(focus (intro wS h;have q0:=(h.kc m0 a8);have q1:=(h.kc m1 a8);have q2:=(h.kc m2 a8);have q3:=(h.kc t0 a1);have q4:=(h.kc t1 a1);have q5:=(h.kc t2 a1);clear h;go_simp;try rfl));dsimp only[Act.put];try simp only[aK])
   refine ag rfl (by kernel_rfl) ?_;intro KS hKS;go_simp;refine(j2.out _ (a0.trans h5)).mono ?_;rintro en w2 ⟨rfl,b6⟩;have d6:=h5.trans b6;refine hKS.out _ _ (fun _=>d6) ?_;clear hKS KS;refine ag rfl (by kernel_rfl) ?_;intro KS hKS;go_simp;refine hKS.out _ _ nofun ?_;clear hKS KS;refine aF rfl (by kernel_rfl) ?_;have a5:=a0.trans d6;have f8:=d6.kp i3.out;clear m0 m1 m2 a8 a1 t0 t1 t2 i3;have m0:=ce0 f8;have m1:=ce1 f8;have m2:=ce2 f8;have a8:=ae f8;have a1:gt<w2.heap.size:=Nat.lt_of_lt_of_le a6 a5.size;clear f8 x1 x2 x3 y0;rcases e8 with h2| ⟨k2,s2,l2,rfl,g3,a7,f1,f2⟩
   ·have y1: ¬((t.length:Int)≤wy):=by omega
    have y2: ¬(0≤wy):=by omega
    go_wp2_with fail
    all_goals go_ret
    all_goals exact⟨rfl,a5⟩
   ·have y1: ¬((t.length:Int)≤(k2:Int)):=by omega
    have y2:(0:Int)≤(k2:Int):=by omega
    have y3:(k2:Int)<(bd.code.length:Int):=by omega
    have t0:w2.cell? ⟨gt,k2*3,none⟩=some (.bool true):=a5.kc (b5.out _ _ (dx (q:=0) a7 (by omega))) a6;have t1:w2.cell? ⟨gt,k2*3+1,none⟩=some (.string ⟨s2.toArray⟩):=a5.kc (b5.out _ _ (dx (q:=1) a7 (by omega))) a6;have t2:w2.cell? ⟨gt,k2*3+2,none⟩=some (.string ⟨l2.toArray⟩):=a5.kc (b5.out _ _ (dx (q:=2) a7 (by omega))) a6;have j3:=hid (fun wx h=>e5.out k2 s2 l2 a7 f1 f2 wx h);have h6:But (fun _=>False) w2 w2.drew:=But.drew _ _;clear a7 f1 f2;go_wp2_with fail;refine aB (But (fun _=>False) w2) 7 (by kernel_rfl) ?_
    iterate 6 (refine dt (v:=?_) rfl (by kernel_rfl) (fun _ _ _ h=>h) rfl h6 ?_ ?_;rotate_left;(focus (intro wS h;have q0:=(h.kc m0 a8);have q1:=(h.kc m1 a8);have q2:=(h.kc m2 a8);have q3:=(h.kc t0 a1);have q4:=(h.kc t1 a1);have q5:=(h.kc t2 a1);clear h;go_simp;try rfl));dsimp only[Act.put];try simp only[aK])
    refine ag rfl (by kernel_rfl) ?_;intro KS hKS;go_simp;refine(j3.out _ (a5.trans h6)).mono ?_;rintro en w9 ⟨rfl,b6⟩;have d6:=h6.trans b6;refine hKS.out _ _ (fun _=>d6) ?_;clear hKS KS;refine ag rfl (by kernel_rfl) ?_;intro KS hKS;go_simp;refine hKS.out _ _ nofun ?_;clear hKS KS;refine aF rfl (by kernel_rfl) ?_;go_wp2_with fail
    all_goals go_ret
    all_goals exact⟨rfl,a5.trans d6⟩
theorem yH (bi:Nat) (im:Img) (bd:Bod) (ak:Option Addr) (capk b3:Nat) (v:Value) (t:List St) (w:World) (hI:dk w bi im) (hW:WfI im) (hbd:WfB im.classes im.sigs bd) (hc:w.ownsRow 0 144 4 (.slice ak bd.code.length capk) bd.code.length (cz bd.code)) (hG:kU im bd t) (hwf:wfT im.classes.length bd.locals.length bd.code.length t) (hO:w.ownsRow b3 91 3 v t.length (tdC t)):
  Calls Tryz.prog 30 #[.pointer (some ⟨bi,0,none⟩),.agg #[.int .i64 bd.cls,.int .i64 bd.meth,.string ⟨bd.locals.toArray⟩,.slice ak bd.code.length capk,.slice none 0 0],v] w fun en w'=>en= .returned (.bool true)∧But (fun _=>False) w w':=by
 have a7:=hbd.len;have a8:=hbd.loc;obtain⟨n,hn⟩: ∃n,bd.code.length=n:=⟨_,rfl⟩;have f0:t.length=n:=hG.len.trans hn;obtain⟨⟨s0,l0⟩,h0,g1,g2⟩:=hG.start;have e9:=hwf.okS a7.2 0 s0 l0 h0;have f7: ∀c∈bd.locals,okT im.classes.length c=true:=fun c hcm=>gd (a8.2 c hcm)
 have f1:=hid (fun(wx:World) (h:But (fun _=>False) w wx)=>sp bi im.classes [] bd.locals s0 l0 wx (hI.but h).cls hW.cls hW.nc (fun c hc=>by simp at hc) f7 g1 g2 (by simp) (by have:=a8.1;omega));have f2:=hid (uO bd ak n capk);have e6:=hid (fun(i:Nat) st lo (hi:t[i]?=some (some (st,lo))) (wx:World) (h:But (fun _=>False) w wx)=>yG bi im bd ak capk b3 v t i st lo wx (hI.but h) hW hbd (ah hc h (fun _ _ h=>h)) hG hwf (ah hO h (fun _ _ h=>h)) hi);have g0:=hid (fun(i:Nat) st lo (hi:t[i]?=some (some (st,lo)))=>(hwf.okS a7.2 i st lo hi).2.2.1);rw[hn]at e6 a7⊢;obtain⟨av,cv,rfl⟩:=aq hO;obtain⟨gt,e1,a5,h1,d6⟩:=aD hO (by omega)
 cases e1
 have e7:=hid d6;have f8:=hid f0;rw[f0]at e6⊢;have q0:w.cell? ⟨gt,0,none⟩=some (.bool true):=d6 _ _ (dx (q:=0) h0 (by omega));have q1:w.cell? ⟨gt,1,none⟩=some (.string ⟨s0.toArray⟩):=d6 _ _ (dx (q:=1) h0 (by omega));have q2:w.cell? ⟨gt,2,none⟩=some (.string ⟨l0.toArray⟩):=d6 _ _ (dx (q:=2) h0 (by omega));have g6:(0:Int)<(n:Int):=by omega
 have a3:=heap_alloc_new w (.cells #[.int .i64 bd.cls,.int .i64 bd.meth,.string ⟨bd.locals.toArray⟩,.slice ak n capk,.slice none 0 0] 52);have a4:But (fun _=>False) w (w.alloc (.cells #[.int .i64 bd.cls,.int .i64 bd.meth,.string ⟨bd.locals.toArray⟩,.slice ak n capk,.slice none 0 0] 52)):=But.alloc _ _ _;clear d6 f0 hn hI hW hbd hc hG hwf hO h0 g1 g2 e9 f7 a8
 go_in
 go_wp2_with fail;revert a3 a4;generalize (w.alloc (.cells #[.int .i64 bd.cls,.int .i64 bd.meth,.string ⟨bd.locals.toArray⟩,.slice ak n capk,.slice none 0 0] 52))=W;intro a3 a4;have b0:=ce0 a3;have b1:=ce1 a3;have b2:=ce2 a3;have e0:=ce3 a3;have b4:=ce4 a3;have a1:=ae a3;have e5:gt<W.heap.size:=Nat.lt_of_lt_of_le a5 a4.size;replace q0:=a4.kc q0 a5;replace q1:=a4.kc q1 a5;replace q2:=a4.kc q2 a5;have a0:But (fun _=>False) W W.drew:=But.drew _ _;refine ck (But (fun _=>False) W) 7 (by kernel_rfl) ?_;have fSA:=hid (fun wS (h:(But (fun _=>False) W) wS)=>(And.intro (h.kc b0 a1) (And.intro (h.kc b1 a1) (And.intro (h.kc b2 a1) (And.intro (h.kc e0 a1) (And.intro (h.kc b4 a1) (And.intro (h.kc q0 e5) (And.intro (h.kc q1 e5) (h.kc q2 e5)))))))))
 refine ay (k:=0) (v:= ?vA0) rfl (by decide) (by kernel_rfl) (fun _ _ _ h=>h) rfl a0 ?yA0 ?rA0
 case yA0=>intro wS h;obtain⟨q0,q1,q2,q3,q4,q5,q6,q7⟩:=fSA.out wS h;clear h;go_simp;try rfl
 dsimp only[Act.put]
 try simp only[aK]
 refine ay (k:=1) (v:= ?vA1) rfl (by decide) (by kernel_rfl) (fun _ _ _ h=>h) rfl a0 ?yA1 ?rA1
 case yA1=>intro wS h;obtain⟨q0,q1,q2,q3,q4,q5,q6,q7⟩:=fSA.out wS h;clear h;go_simp;try rfl
 dsimp only[Act.put]
 try simp only[aK]
 refine ay (k:=3) (v:= ?vA3) rfl (by decide) (by kernel_rfl) (fun _ _ _ h=>h) rfl a0 ?yA3 ?rA3
 case yA3=>intro wS h;obtain⟨q0,q1,q2,q3,q4,q5,q6,q7⟩:=fSA.out wS h;clear h;go_simp;try rfl
 dsimp only[Act.put]
 try simp only[aK]
 refine ay (k:=4) (v:= ?vA4) rfl (by decide) (by kernel_rfl) (fun _ _ _ h=>h) rfl a0 ?yA4 ?rA4
 case yA4=>intro wS h;obtain⟨q0,q1,q2,q3,q4,q5,q6,q7⟩:=fSA.out wS h;clear h;go_simp;try rfl
 dsimp only[Act.put]
 try simp only[aK]
 refine ay (k:=5) (v:= ?vA5) rfl (by decide) (by kernel_rfl) (fun _ _ _ h=>h) rfl a0 ?yA5 ?rA5
 case yA5=>intro wS h;obtain⟨q0,q1,q2,q3,q4,q5,q6,q7⟩:=fSA.out wS h;clear h;go_simp;try rfl
 dsimp only[Act.put]
 try simp only[aK]
 try clear fSA
 refine aA (k:=2) rfl (by decide) (by kernel_rfl) ?_;intro KS hKS;go_simp;refine(f2.out _).mono ?_;rintro en w1 ⟨rfl,f3⟩;have e3:=a0.trans f3;refine hKS.out _ _ (fun _=>e3) ?_;clear hKS KS;refine aA (k:=6) rfl (by decide) (by kernel_rfl) ?_;intro KS hKS;go_simp;refine(f1.out _ (a4.trans e3)).mono ?_;rintro en w2 ⟨rfl,f4⟩;have e4:=e3.trans f4;refine hKS.out _ _ (fun _=>e4) ?_;clear hKS KS;refine aA (k:=7) rfl (by decide) (by kernel_rfl) ?_;intro KS hKS;go_simp;refine hKS.out _ _ nofun ?_;clear hKS KS;refine b7 rfl (by kernel_rfl) ?_;have b5:=a4.trans e4;have f5:=e4.kp a3;clear b0 b1 b2 e0 b4 q0 q1 q2 a3 f2 f1 a0 f3 e3 f4 e4 a4 a1 e5
 go_wp2_with fail
 go_loopg [8] n (fun mm is wr=> ∃k:Nat,is= .int .i64 k∧k+mm=n∧But (fun _=>False) w wr∧wr.heap[w.heap.size]?=some (.cells #[.int .i64 bd.cls,.int .i64 bd.meth,.string ⟨bd.locals.toArray⟩,.slice ak n capk,.slice none 0 0] 52))
 case atStart=>exact⟨0,rfl,by omega,b5,f5⟩
 case round=>
  clear b5 f5;obtain⟨k,rfl,hk,a6,b6⟩:=hrel;have c7:gt<wr.heap.size:=Nat.lt_of_lt_of_le a5 a6.size
  by_cases hlt:k<n
  ·have g5:(k:Int)<(n:Int):=by omega
   obtain⟨o,ho⟩: ∃o,t[k]?=some o:=⟨_,List.getElem?_eq_getElem (by rw[f8.out];exact hlt)⟩
   cases o with
   |none=>
    have c0:wr.cell? ⟨gt,k*3,none⟩=some (.bool false):=a6.kc (e7.out _ _ (dx (q:=0) ho (by omega))) a5;clear ho;go_wp2_with fail
    go_roundg (n-(k+1))
    case measure=>omega
    case rel=>exact⟨k+1,by simp,by omega,a6,b6⟩
   |some p=>
    obtain⟨st,lo⟩:=p;have c0:wr.cell? ⟨gt,k*3,none⟩=some (.bool true):=a6.kc (e7.out _ _ (dx (q:=0) ho (by omega))) a5;have c2:wr.cell? ⟨gt,k*3+2,none⟩=some (.string ⟨lo.toArray⟩):=a6.kc (e7.out _ _ (dx (q:=2) ho (by omega))) a5;have f6:=g0.out k st lo ho;have g7:((lo.length:Int)!=(bd.locals.length:Int))=false:=by rw[f6];simp
    have HK:=hid (fun wx h=>e6.out k st lo ho wx h);have b2:=ce2 b6;have a1:=ae b6;have a0:But (fun _=>False) wr wr.drew:=But.drew _ _;clear ho f6;go_wp2_with fail;refine aB (But (fun _=>False) wr) 9 (by kernel_rfl) ?_
    iterate 9 (refine dt (v:=?_) rfl (by kernel_rfl) (fun _ _ _ h=>h) rfl a0 ?_ ?_;rotate_left;(focus (intro wS h;have q0:=(h.kc c2 c7);have q1:=(h.kc b2 a1);clear h;go_simp;try rfl));dsimp only[Act.put];try simp only[aK])
    refine ag rfl (by kernel_rfl) ?_;intro KS hKS;go_simp;refine hKS.out _ _ nofun ?_;clear hKS KS;refine aF rfl (by kernel_rfl) ?_;have a2:=a0.kp b6;have e2:=a6.trans a0;revert a2 e2;clear c0 c2 b2 a1 b6 a0 c7;generalize wr.drew=w3;intro a2 e2;have b0:=ce0 a2;have b1:=ce1 a2;have b2:=ce2 a2;have e0:=ce3 a2;have b4:=ce4 a2;have a1:=ae a2;go_wp2_with fail;refine(HK.out _ e2).mono ?_;rintro en w4 ⟨rfl,e8⟩;have g4:=e8.kp a2;have g3:=e2.trans e8;clear b0 b1 b2 e0 b4 a1 HK e8 a2;go_wp2_with fail
    go_roundg (n-(k+1))
    case measure=>omega
    case rel=>exact⟨k+1,by simp,by omega,g3,g4⟩
  ·have g5: ¬(k:Int)<(n:Int):=by omega
   go_wp2_with fail
   all_goals go_ret
   all_goals exact⟨rfl,a6⟩
end
end Go.Proofs.YtpfkkmacakjmbaaGreatDoor
