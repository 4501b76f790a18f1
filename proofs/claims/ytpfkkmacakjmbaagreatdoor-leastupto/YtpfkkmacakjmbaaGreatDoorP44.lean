import Derived.Test.YtpfkkmacakjmbaaGreatDoorP30
import Derived.Deep.Cut
set_option maxRecDepth 100000
set_option maxHeartbeats 6400000
set_option linter.unusedSimpArgs false
set_option linter.unusedVariables false
namespace Go.Proofs.YtpfkkmacakjmbaaGreatDoor
section
open Go Go.RowKit Sp
attribute [local go_sem ↓] Go.wp_at_zero Go.wp_at_succ
def g9 (S:List UInt8) (i:Nat) (l:List UInt8):Prop:= ∀k c,l[k]?=some c→S[i+k]?=some c
theorem g9.left {S:List UInt8} {i:Nat} {a b:List UInt8} (h:g9 S i (a++b)):g9 S i a:=fun k c hk=>h k c (by rw[List.getElem?_append_left (List.getElem?_eq_some_iff.1 hk).1];exact hk)
theorem g9.right {S:List UInt8} {i:Nat} {a b:List UInt8} (h:g9 S i (a++b)):g9 S (i+a.length) b:=fun k c hk=>by
 have:=h (a.length+k) c (by rw[List.getElem?_append_right (by omega)];simpa using hk);rw[Nat.add_assoc];exact this
theorem yE:(Tryz.prog.info? 91).map (fun i=>(i.zero,i.size,i.bytes))=some (some (.agg #[.bool false,.string ⟨#[]⟩,.string ⟨#[]⟩]),3,40):=by kernel_rfl
def tdC (t:List St):List Value:=t.flatMap fun o=>(stV o).toList
theorem so (t:List St) (o:St):tdC (t++ [o])=tdC t++(stV o).toList:=by simp[tdC]
theorem uq {n:Nat} {c:UInt8} (h:okT n c=true):c.toNat≠124∧c.toNat≠44∧c.toNat≠63∧c.toNat≠59∨4<n:=by
 rcases cR.1 h with h|h|h|h<;>omega
def BJ (n:Nat) (S:List UInt8) (e:UInt8):Nat→Nat→List UInt8→Option (List UInt8×Nat)
 |0,_,_=>none
 |f+1,i,t=>match S[i]? with
  |none=>none
  |some c=>if c=e then some (t,i+1)else if okT n c=true then BJ n S e f (i+1) (t++ [c])else none
def Cf:Option (List UInt8×Nat)→Value
 |none=> .tuple #[.string ⟨#[]⟩,.int .i64 (-1)]
 |some (r,j)=> .tuple #[.string ⟨r.toArray⟩,.int .i64 j]
theorem BU {n:Nat} {S:List UInt8} {e:UInt8}: ∀{f i:Nat} {t r:List UInt8} {j:Nat},BJ n S e f i t=some (r,j)→(∀c∈t,okT n c=true)→(∀c∈r,okT n c=true)∧i<j∧j≤S.length∧r.length+i+1=t.length+j
 |0,i,t,r,j,h,_=>by cases h
 |f+1,i,t,r,j,h,ht=>by
  unfold BJ at h
  cases hc:S[i]? with
  |none=>rw[hc]at h;cases h
  |some c=>
   rw[hc]at h;have hl:=(List.getElem?_eq_some_iff.1 hc).1;dsimp only at h
   split at h
   ·cases h
    exact⟨ht,by omega,by omega,by omega⟩
   ·split at h
    ·rename_i hok
     obtain⟨h1,h2,h3,h4⟩:=BU h (fun d hd=>by
      rcases List.mem_append.1 hd with hd|hd
      ·exact ht d hd
      ·rw[List.mem_singleton.1 hd];exact hok)
     rw[List.length_append,List.length_singleton]at h4;exact⟨h1,by omega,h3,by omega⟩
    ·cases h
theorem Cr (bi:Nat) (cs:List Cls) (S:List UInt8) (i:Nat) (e:UInt8) (w:World) (hI:gj w bi cs) (hn:cs.length≤4) (hl:S.length≤100000000) (hi:i≤S.length):
  Calls Tryz.prog 54 #[.pointer (some ⟨bi,0,none⟩),.string ⟨S.toArray⟩,.int .i64 i,.int .u8 e.toNat] w fun en w'=>en= .returned (Cf (BJ cs.length S e (S.length+1-i) i []))∧But (fun _=>False) w w':=by
 obtain⟨R,hR⟩: ∃R,BJ cs.length S e (S.length+1-i) i []=R:=⟨_,rfl⟩;obtain⟨B,hB⟩: ∃B:ByteArray,(⟨S.toArray⟩:ByteArray)=B:=⟨_,rfl⟩;have b2:B.size=S.length:=by rw[←hB];show S.toArray.size=_;simp
 have b5:Hid (∀(k:Nat) (c:UInt8),S[k]?=some c→(∀h,B[k]'h=c)∧B.extract k (k+1)=⟨#[c]⟩∧k<S.length):=fun k c hk=>by
  obtain⟨a5,rfl⟩:=List.getElem?_eq_some_iff.1 hk;subst hB;exact⟨fun h=>mC S _ a5 _,mE S k a5,a5⟩
 have a7:=hid hI;have HR:=hid hR;rw[hB,hR];clear hB hI hR
 go_in
 go_wp2_with fail
 go_loopg [2,10] (S.length-i) (fun mm is ts wr=> ∃(n:Nat) (T:List UInt8),is= .int .i64 n∧ts= .string ⟨T.toArray⟩∧Hid (BJ cs.length S e (S.length+1-n) n T=R)∧T.length≤n∧n+mm=S.length∧But (fun _=>False) w wr)
 case atStart=>exact⟨i,[],rfl,rfl,HR,by simp,by omega,But.refl _ _⟩
 case round=>
  clear HR;obtain⟨n,T,rfl,rfl,a3,e4,f0,a1⟩:=hrel;have f1:(0:Int)≤(n:Int):=by omega
  by_cases a5:n<S.length
  ·obtain⟨c,hc⟩: ∃c,S[n]?=some c:=⟨_,List.getElem?_eq_getElem a5⟩;obtain⟨hg,e6,e7⟩:=b5.out _ _ hc;have e8:(n:Int)<(B.size:Int):=by rw[b2];omega
   have c7: ¬((B.size:Int)≤(n:Int)):=by omega
   have e0:n<B.size:=by omega
   have f3:=dj ((n:Int)+1) (by omega) (by omega);have e9:(n:Int)≤(n:Int)+1:=by omega
   have d6:(n:Int)+1≤(B.size:Int):=by omega
   have a0:=a3.out;rw[show S.length+1-n=(S.length-n)+1 from by omega,BJ,hc]at a0;dsimp only at a0
   by_cases hce:c=e
   ·rw[if_pos hce]at a0;subst hce;have b6:((c.toNat:Int)!=(c.toNat:Int))=false:=by simp
    subst a0;clear a3 hc;go_wp2_with fail;exact bodyPost_ret (v:= .tuple #[.string ⟨T.toArray⟩,.int .i64 ((n:Int)+1)]) (by simp[results,Tryz.results54,go_sem]) rfl ⟨by simp[Cf],a1⟩
   ·rw[if_neg hce]at a0
    have b6:((c.toNat:Int)!=(e.toNat:Int))=true:=by
     rw[bne_iff_ne];intro h;exact hce (UInt8.toNat_inj.1 (by omega))
    have f2:=fE T c;have f4:(⟨T.toArray⟩:ByteArray).size+(⟨#[c]⟩:ByteArray).size≤200000000:=by show T.toArray.size+1≤_;simp;omega
    have a4:=hid (dr c);obtain⟨v0,v1,v2,a6,a2⟩:=a7.out.but a1;obtain⟨ac,cc,rfl⟩:=aq a2;have c0:=ce0 a6;have e5:=ae a6
    by_cases hok:okT cs.length c=true
    ·rw[if_pos hok]at a0
     have a8:Hid (BJ cs.length S e (S.length+1-(n+1)) (n+1) (T++ [c])=R):=by
      show _=_
      rw[show S.length+1-(n+1)=S.length-n from by omega];exact a0
     clear a0 a3 hc a6 a2;rcases cR.1 hok with h1|h1|h1|h1
     ·have e1:((c.toNat:Int)!=105)=false:=by rw[h1];rfl
      clear h1 hok;go_wp2_with fail
      go_roundg (S.length-(n+1))
      case measure=>omega
      case rel=>exact⟨n+1,T++ [c],by simp,rfl,a8,by simp;omega,by omega,a1⟩
     ·have e1:((c.toNat:Int)!=105)=true:=by rw[bne_iff_ne];omega
      have e2:((c.toNat:Int)!=122)=true:=by rw[bne_iff_ne];omega
      have e3:((c.toNat:Int)!=45)=true:=by rw[bne_iff_ne];omega
      have hC:isC c=true:=bB.2 (by omega);rw[hC]at a4
      have b1:IntKind.u8.wrap ((c.toNat:Int)-65)=((c.toNat-65:Nat):Int):=by
       rw[IntWalk.u8_in _ (by omega)];omega
      have b0: ¬((cs.length:Int)≤((c.toNat-65:Nat):Int)):=by omega
      have b3:=dj ((c.toNat-65:Nat):Int) (by omega) (by omega);clear hok hC a7;go_wp2_with fail;refine(a4.out _).mono ?_;rintro en w1 ⟨rfl,rfl⟩;go_wp2_with fail
      go_roundg (S.length-(n+1))
      case measure=>omega
      case rel=>exact⟨n+1,T++ [c],by simp,rfl,a8,by simp;omega,by omega,a1⟩
     ·have e1:((c.toNat:Int)!=105)=true:=by rw[h1];rfl
      have e2:((c.toNat:Int)!=122)=false:=by rw[h1];rfl
      clear h1 hok;go_wp2_with fail
      go_roundg (S.length-(n+1))
      case measure=>omega
      case rel=>exact⟨n+1,T++ [c],by simp,rfl,a8,by simp;omega,by omega,a1⟩
     ·have e1:((c.toNat:Int)!=105)=true:=by rw[h1];rfl
      have e2:((c.toNat:Int)!=122)=true:=by rw[h1];rfl
      have e3:((c.toNat:Int)!=45)=false:=by rw[h1];rfl
      clear h1 hok;go_wp2_with fail
      go_roundg (S.length-(n+1))
      case measure=>omega
      case rel=>exact⟨n+1,T++ [c],by simp,rfl,a8,by simp;omega,by omega,a1⟩
    ·rw[if_neg hok]at a0;subst a0;have b4: ¬(c.toNat=105∨(65≤c.toNat∧c.toNat<65+cs.length)∨c.toNat=122∨c.toNat=45):=fun h=>hok (cR.2 h)
     have e1:((c.toNat:Int)!=105)=true:=by rw[bne_iff_ne];omega
     have e2:((c.toNat:Int)!=122)=true:=by rw[bne_iff_ne];omega
     have e3:((c.toNat:Int)!=45)=true:=by rw[bne_iff_ne];omega
     cases hC:isC c with
     |true=>
      have h6:=bB.1 hC;rw[hC]at a4
      have b1:IntKind.u8.wrap ((c.toNat:Int)-65)=((c.toNat-65:Nat):Int):=by
       rw[IntWalk.u8_in _ (by omega)];omega
      have b0:((cs.length:Int)≤((c.toNat-65:Nat):Int)):=by omega
      have b3:=dj ((c.toNat-65:Nat):Int) (by omega) (by omega);clear hok b4 hC a7 a3 hc a6 a2;go_wp2_with fail;refine(a4.out _).mono ?_;rintro en w1 ⟨rfl,rfl⟩;go_wp2_with fail
      all_goals exact bodyPost_ret (v:= .tuple #[.string ⟨#[]⟩,.int .i64 (-1)]) (by simp[results,Tryz.results54,go_sem]) rfl ⟨rfl,a1⟩
     |false=>
      rw[hC]at a4;clear hok b4 hC a7 a3 hc a6 a2;go_wp2_with fail;refine(a4.out _).mono ?_;rintro en w1 ⟨rfl,rfl⟩;go_wp2_with fail
      all_goals exact bodyPost_ret (v:= .tuple #[.string ⟨#[]⟩,.int .i64 (-1)]) (by simp[results,Tryz.results54,go_sem]) rfl ⟨rfl,a1⟩
  ·have e0: ¬((n:Int)<(B.size:Int)):=by rw[b2];omega
   have c7:((B.size:Int)≤(n:Int)):=by rw[b2];omega
   have a0:=a3.out;rw[show S.length+1-n=0+1 from by omega,BJ,List.getElem?_eq_none (by omega)]at a0;subst a0;clear a3 a5;go_wp2_with fail
   all_goals exact bodyPost_ret (v:= .tuple #[.string ⟨#[]⟩,.int .i64 (-1)]) (by simp[results,Tryz.results54,go_sem]) rfl ⟨rfl,a1⟩
def BH (n:Nat) (S:List UInt8) (e:UInt8) (i:Nat):Option (List UInt8×Nat):=BJ n S e (S.length+1-i) i []
def kd (n:Nat) (S:List UInt8):Nat→Nat→List St→Option (List St×Nat)
 |0,_,_=>none
 |f+1,i,t=>match S[i]? with
  |none=>none
  |some c=>if c.toNat=59 then some (t,i+1)else
   if c.toNat=63 then(match S[i+1]? with
    |none=>none
    |some d=>if d.toNat=44 then kd n S f (i+2) (t++ [none])else none)
   else match BH n S 124 i with
    |none=>none
    |some (a,j)=>match BH n S 44 j with
     |none=>none
     |some (l,k)=>kd n S f k (t++ [some (a,l)])
def BP (n:Nat) (S:List UInt8) (i:Nat):Option (List St×Nat):=kd n S (S.length+1-i) i []
def Cs (w:World) (R:Option (List St×Nat)) (en:Ending) (w':World):Prop:=match R with
 |none=>en= .returned (.tuple #[.slice none 0 0,.int .i64 (-1)])
 |some (t,j)=> ∃v,en= .returned (.tuple #[v,.int .i64 j])∧w'.ownsRow w.heap.size 91 3 v t.length (tdC t)
theorem ol {n:Nat} {S:List UInt8} {e:UInt8} {i:Nat} {r:List UInt8} {j:Nat} (h:BH n S e i=some (r,j)):(∀c∈r,okT n c=true)∧i<j∧j≤S.length∧r.length≤S.length:=by
 obtain⟨h1,h2,h3,h4⟩:=BU h (fun c hc=>by simp at hc);simp only[List.length_nil]at h4;exact⟨h1,h2,h3,by omega⟩
theorem BC {n:Nat} {S:List UInt8}: ∀(f g i:Nat) (t:List St),S.length+1-i≤f→S.length+1-i≤g→kd n S f i t=kd n S g i t
 |0,g,i,t,h,_=>by
  cases g with
  |zero=>rfl
  |succ g=>rw[kd,kd,List.getElem?_eq_none (by omega)]
 |f+1,0,i,t,_,h=>by rw[kd,kd,List.getElem?_eq_none (by omega)]
 |f+1,g+1,i,t,hf,hg=>by
  rw[kd,kd]
  cases hc:S[i]? with
  |none=>rfl
  |some c=>
   dsimp only
   split
   ·rfl
   split
   ·cases S[i+1]? with
    |none=>rfl
    |some d=>
     dsimp only
     split
     ·exact BC f g (i+2) _ (by omega) (by omega)
     ·rfl
   ·cases h1:BH n S 124 i with
    |none=>rfl
    |some p=>
     obtain⟨a,j⟩:=p;dsimp only
     cases h2:BH n S 44 j with
     |none=>rfl
     |some p=>
      obtain⟨l,k⟩:=p;have a1:=ol h1;have a2:=ol h2;exact BC f g k _ (by omega) (by omega)
theorem BK (bi:Nat) (cs:List Cls) (S:List UInt8) (i:Nat) (w:World) (hI:gj w bi cs) (hn:cs.length≤4) (hl:S.length≤100000000) (hi:i≤S.length):
  Calls Tryz.prog 29 #[.pointer (some ⟨bi,0,none⟩),.string ⟨S.toArray⟩,.int .i64 i] w fun en w'=>But (fun _=>False) w w'∧Cs w (BP cs.length S i) en w':=by
 obtain⟨i0,e6,e7,e8,e9⟩:=info_parts yE;obtain⟨R,hR⟩: ∃R,BP cs.length S i=R:=⟨_,rfl⟩;obtain⟨B,hB⟩: ∃B:ByteArray,(⟨S.toArray⟩:ByteArray)=B:=⟨_,rfl⟩;have f6:B.size=S.length:=by rw[←hB];show S.toArray.size=_;simp
 have e4:Hid (∀(k:Nat) (c:UInt8),S[k]?=some c→(∀h,B[k]'h=c)∧k<S.length):=fun k c hk=>by
  obtain⟨b4,rfl⟩:=List.getElem?_eq_some_iff.1 hk;subst hB;exact⟨fun h=>mC S _ b4 _,b4⟩
 have a6:=hid (fun j e w1 (hBw:But (fun _=>False) w w1) (h:j≤S.length)=>Cr bi cs S j e w1 (hI.but hBw) hn hl h);rw[hB]at a6⊢;rw[hR];have HR:=hid hR;clear hB hI hR
 go_in
 go_wp2_with fail
 go_loopg [2,8] (S.length-i) (fun mm is ts wr=> ∃(n:Nat) (T:List St),is= .int .i64 n∧Hid (kd cs.length S (S.length+1-n) n T=R)∧T.length≤n∧n+mm=S.length∧wr.ownsRow w.heap.size 91 3 ts T.length (tdC T)∧But (fun _=>False) w wr)
 case atStart=>exact⟨i,[],rfl,HR,by simp,by omega,by simpa[tdC]using du w _ _ _,But.refl _ _⟩
 case round=>
  clear HR;obtain⟨n,T,rfl,HN,f2,hk,hO,a4⟩:=hrel;obtain⟨ao,cap,rfl⟩:=aq hO;have e5:=aj hO;have f5:(0:Int)≤(n:Int):=by omega
  have hz:=a4.size;have a0:=HN.out
  by_cases b4:n<S.length
  ·obtain⟨c,hc⟩: ∃c,S[n]?=some c:=⟨_,List.getElem?_eq_getElem b4⟩;rw[show S.length+1-n=(S.length-n)+1 from by omega,kd,hc]at a0;dsimp only at a0;obtain⟨g0,l0⟩:=e4.out _ _ hc;have q0:(n:Int)<(B.size:Int):=by omega
   have q3:n<B.size:=by omega
   have q9: ¬((B.size:Int)≤(n:Int)):=by omega
   have w1:=dj ((n:Int)+1) (by omega) (by omega);have w2:=dj ((n:Int)+2) (by omega) (by omega)
   by_cases h59:c.toNat=59
   ·rw[if_pos h59]at a0;subst a0;have e1:((c.toNat:Int)!=59)=false:=by rw[h59];rfl
    clear HN hc h59;go_wp2_with fail;exact bodyPost_ret (v:= .tuple #[.slice ao T.length cap,.int .i64 ((n:Int)+1)]) (by simp[results,Tryz.results29,go_sem]) rfl ⟨a4,_,by simp,hO⟩
   rw[if_neg h59]at a0;have e1:((c.toNat:Int)!=59)=true:=by rw[bne_iff_ne];omega
   by_cases h63:c.toNat=63
   ·rw[if_pos h63]at a0;have e2:((c.toNat:Int)==63)=true:=aV 63 (by omega);clear h63 h59 hc HN
    cases hd:S[n+1]? with
    |none=>
     rw[hd]at a0;subst a0;have f4:=List.getElem?_eq_none_iff.1 hd;have q4:((B.size:Int)≤(n:Int)+1):=by omega
     have a5:=a4;clear hd;go_wp2_with fail
     all_goals exact bodyPost_ret (v:= .tuple #[.slice none 0 0,.int .i64 (-1)]) (by simp[results,Tryz.results29,go_sem]) rfl ⟨a5,rfl⟩
    |some d=>
     rw[hd]at a0;dsimp only at a0;obtain⟨g1,l1⟩:=e4.out _ _ hd;have q4: ¬((B.size:Int)≤(n:Int)+1):=by omega
     have q5:(n:Int)+1<(B.size:Int):=by omega
     have q6:n+1<B.size:=by omega
     by_cases h44:d.toNat=44
     ·rw[if_pos h44]at a0;have e3:((d.toNat:Int)!=44)=false:=by rw[h44];rfl
      have b5:Hid (kd cs.length S (S.length+1-(n+2)) (n+2) (T++ [none])=R):=(BC _ _ _ _ (by omega) (by omega)).trans a0;clear a0 hd h44;go_wp2_with (at_builtin;refine wpList_append_lies _ rfl _ _ _ rfl w.heap.size 91 i0 _ 3 40 (by kernel_rfl) e6 e7 e8 e9 rfl (by omega) _ T.length (tdC T) rfl (hO.alloc _) ⟨wr.heap.size,0,none⟩ 1 1 [.bool false,.string ⟨#[]⟩,.string ⟨#[]⟩] rfl rfl (World.news_of_block (cs:=#[.bool false,.string ⟨#[]⟩,.string ⟨#[]⟩]) (t:=91) (fr:=(0,0)) (CB (by simp) _)) (by simp[Value.oneCell']) (by omega) (by unfold maxLen;omega) (by omega) (by simp;omega) (wr.heap.size+1) (by simp) ?_)
      intro gg b6 w5 a3 a1 a7 e0;have d6:But (fun j=>(Value.slice ao T.length cap).ownBlock=some j) wr w5:=(But.alloc _ _ _).trans (aX a1);have c7:But (fun _=>False) w w5:=a4.next d6 (fun j hj h=>absurd (e5 j h) (by omega));clear a1 a7;go_wp2_with fail
      go_roundg (S.length-(n+2))
      case measure=>omega
      case rel=>exact⟨n+2,T++ [none],by simp,b5,by simp;omega,by omega,by rw[List.length_append,so];exact a3,c7⟩
     ·rw[if_neg h44]at a0;subst a0;have e3:((d.toNat:Int)!=44)=true:=by rw[bne_iff_ne];omega
      have a5:=a4;clear hd h44;go_wp2_with fail
      all_goals exact bodyPost_ret (v:= .tuple #[.slice none 0 0,.int .i64 (-1)]) (by simp[results,Tryz.results29,go_sem]) rfl ⟨a5,rfl⟩
   ·rw[if_neg h63]at a0;have e2:((c.toNat:Int)==63)=false:=aM 63 (by omega);have a8:=hid (a6.out n 124 wr a4 (by omega));clear h63 h59 hc HN
    cases h1:BH cs.length S 124 n with
    |none=>
     rw[h1]at a0;subst a0;unfold BH at h1;rw[h1]at a8;clear h1;go_wp2_with fail;refine a8.out.mono ?_;rintro en w3 ⟨rfl,b1⟩;have a5:=a4.trans b1;simp only[Cf];clear a8;go_wp2_with fail
     all_goals exact bodyPost_ret (v:= .tuple #[.slice none 0 0,.int .i64 (-1)]) (by simp[results,Tryz.results29,go_sem]) rfl ⟨a5,rfl⟩
    |some p=>
     obtain⟨a,j⟩:=p;rw[h1]at a0;dsimp only at a0;obtain⟨_,s1,s2,_⟩:=ol h1;unfold BH at h1;rw[h1]at a8;have j1: ¬(j:Int)<0:=by omega
     have b0:=hid (fun w1 hB=>a6.out j 44 w1 hB s2);clear h1;go_wp2_with fail;refine a8.out.mono ?_;rintro en w3 ⟨rfl,b1⟩;have a2:=a4.trans b1;simp only[Cf];clear a8
     cases h2:BH cs.length S 44 j with
     |none=>
      rw[h2]at a0;subst a0;unfold BH at h2;rw[h2]at b0;clear h2;go_wp2_with fail;refine(b0.out _ a2).mono ?_;rintro en w4 ⟨rfl,b2⟩;have a5:=a2.trans b2;simp only[Cf];clear b0;go_wp2_with fail
      all_goals exact bodyPost_ret (v:= .tuple #[.slice none 0 0,.int .i64 (-1)]) (by simp[results,Tryz.results29,go_sem]) rfl ⟨a5,rfl⟩
     |some p=>
      obtain⟨l,k⟩:=p;rw[h2]at a0;dsimp only at a0;obtain⟨_,s3,s4,_⟩:=ol h2;unfold BH at h2;rw[h2]at b0;have k1: ¬(k:Int)<0:=by omega
      have b5:Hid (kd cs.length S (S.length+1-k) k (T++ [some (a,l)])=R):=(BC _ _ _ _ (by omega) (by omega)).trans a0;clear h2 a0;go_wp2_with fail;refine(b0.out _ a2).mono ?_;rintro en w4 ⟨rfl,b2⟩;have b3:=a2.trans b2;have f0:=ah (ah hO b1 (fun _ _ h=>h)) b2 (fun _ _ h=>h);have f7:=b3.size;simp only[Cf];clear b0 b1 b2 a2;go_wp2_with (at_builtin;refine wpList_append_lies _ rfl _ _ _ rfl w.heap.size 91 i0 _ 3 40 (by kernel_rfl) e6 e7 e8 e9 rfl (by omega) _ T.length (tdC T) rfl (f0.alloc _) ⟨w4.heap.size,0,none⟩ 1 1 [.bool true,.string ⟨a.toArray⟩,.string ⟨l.toArray⟩] rfl rfl (World.news_of_block (cs:=#[.bool true,.string ⟨a.toArray⟩,.string ⟨l.toArray⟩]) (t:=91) (fr:=(0,0)) (CB (by simp) _)) (by simp[Value.oneCell']) (by omega) (by unfold maxLen;omega) (by omega) (by simp;omega) (w4.heap.size+1) (by simp) ?_)
      intro gg b6 w5 a3 a1 a7 e0;have d6:But (fun j=>(Value.slice ao T.length cap).ownBlock=some j) w4 w5:=(But.alloc _ _ _).trans (aX a1);have c7:But (fun _=>False) w w5:=b3.next d6 (fun j hj h=>absurd (e5 j h) (by omega));clear a1 a7;go_wp2_with fail
      go_roundg (S.length-k)
      case measure=>omega
      case rel=>exact⟨k,T++ [some (a,l)],rfl,b5,by simp;omega,by omega,by rw[List.length_append,so];exact a3,c7⟩
  ·have f3: ¬((n:Int)<(B.size:Int)):=by omega
   have f1:((B.size:Int)≤(n:Int)):=by omega
   rw[show S.length+1-n=0+1 from by omega,kd,List.getElem?_eq_none (by omega)]at a0;subst a0;have a5:=a4;clear HN b4;go_wp2_with fail
   all_goals exact bodyPost_ret (v:= .tuple #[.slice none 0 0,.int .i64 (-1)]) (by simp[results,Tryz.results29,go_sem]) rfl ⟨a5,rfl⟩
theorem lM {cs:List Cls} {a b:List UInt8} (h:leL cs a b):cr cs a b=true:=by
 have hl:=dY h;refine oe (by omega) (fun k hk=> ?_);rw[show a.length-b.length+k=k from by omega];exact fH k h
theorem dx {t:List St} {j q:Nat} {o:St} (h:t[j]?=some o) (hq:q<3):(tdC t)[j*3+q]?=(stV o).toList[q]?:=
 el (fun o:St=>(stV o).toList) 3 (fun o=>by cases o<;>rfl) t j q o h hq
def BD (cs:List Cls) (s l:List UInt8):St→Bool
 |none=>false
 |some (s',l')=>decide (s.length=s'.length)&&(decide (l.length=l'.length)&&(cr cs s s'&&cr cs l l'))
theorem Cm {cs:List Cls}: ∀{a b:List UInt8},a.length=b.length→(∀k,k<b.length→bv cs (a.getD k 0) (b.getD k 0)=true)→leL cs a b
 | [],[],_,_=>trivial
 | [],_::_,h,_=>by simp at h
 |_::_,[],h,_=>by simp at h
 |x::a,y::b,h,hk=>⟨hk 0 (by simp),Cm (by simpa using h) (fun k hl=>hk (k+1) (by simpa using hl))⟩
theorem BM {cs:List Cls} {a b:List UInt8} (h:a.length=b.length) (hf:cr cs a b=true):leL cs a b:=by
 refine Cm h (fun k hk=> ?_)
 cases hs:bv cs (a.getD k 0) (b.getD k 0)with
 |true=>rfl
 |false=>
  have:=wI (st:=a) (wa:=b) hk (by rw[show a.length-b.length+k=k from by omega];exact hs);rw[this]at hf
  cases hf
theorem BV {cs:List Cls} {s l:List UInt8} {o:St} (h:BD cs s l o=true): ∃s' l',o=some (s',l')∧leL cs s s'∧leL cs l l':=by
 cases o with
 |none=>cases h
 |some p=>
  obtain⟨s',l'⟩:=p;simp only[BD,Bool.and_eq_true,decide_eq_true_eq]at h;exact⟨s',l',rfl,BM h.1 h.2.2.1,BM h.2.1 h.2.2.2⟩
theorem BL (bi:Nat) (cs:List Cls) (s l:List UInt8) (o:St) (w:World) (hI:gj w bi cs) (hw:WfC cs) (hn:cs.length≤4) (hs: ∀c∈s,okT cs.length c=true) (hl: ∀c∈l,okT cs.length c=true) (n1:s.length≤250000000) (n2:l.length≤250000000):
  Calls Tryz.prog 55 #[.pointer (some ⟨bi,0,none⟩),.agg #[.bool true,.string ⟨s.toArray⟩,.string ⟨l.toArray⟩],.agg (stV o)] w fun en w'=>en= .returned (.bool (BD cs s l o))∧But (fun _=>False) w w':=by
 cases o with
 |none=>
  simp only[stV,BD]
  go_in
  go_wp2_with fail
  all_goals go_ret
  all_goals exact⟨rfl,(But.alloc _ _ _).trans (But.alloc _ _ _)⟩
 |some p=>
  obtain⟨s',l'⟩:=p;simp only[stV,BD]
  by_cases h1:s.length=s'.length
  ·by_cases h2:l.length=l'.length
   ·rw[decide_eq_true h1,decide_eq_true h2,Bool.true_and,Bool.true_and];have a6:=hid (fun w1 (h:But (fun _=>False) w w1)=>mD bi cs s s' w1 (hI.but h) hw hn hs (by omega) (by omega));have a7:=hid (fun w1 (h:But (fun _=>False) w w1)=>mD bi cs l l' w1 (hI.but h) hw hn hl (by omega) (by omega));have y1:((s.length:Int)!=(s'.length:Int))=false:=by rw[h1];simp
    have y2:((l.length:Int)!=(l'.length:Int))=false:=by rw[h2];simp
    generalize cr cs s s'=f1 at*;generalize cr cs l l'=f2 at*;have a8:But (fun _=>False) w ((w.alloc (.cells #[.bool true,.string ⟨s.toArray⟩,.string ⟨l.toArray⟩] 91)).alloc (.cells #[.bool true,.string ⟨s'.toArray⟩,.string ⟨l'.toArray⟩] 91)):=(But.alloc _ _ _).trans (But.alloc _ _ _);have a0:((w.alloc (.cells #[.bool true,.string ⟨s.toArray⟩,.string ⟨l.toArray⟩] 91)).alloc (.cells #[.bool true,.string ⟨s'.toArray⟩,.string ⟨l'.toArray⟩] 91)).heap[w.heap.size]?=some (.cells #[.bool true,.string ⟨s.toArray⟩,.string ⟨l.toArray⟩] 91):=(But.alloc (fun _=>False) _ _).kp (heap_alloc_new w _);have a3:((w.alloc (.cells #[.bool true,.string ⟨s.toArray⟩,.string ⟨l.toArray⟩] 91)).alloc (.cells #[.bool true,.string ⟨s'.toArray⟩,.string ⟨l'.toArray⟩] 91)).heap[w.heap.size+1]?=some (.cells #[.bool true,.string ⟨s'.toArray⟩,.string ⟨l'.toArray⟩] 91):=CB (by simp) _
    have a5:=hid a8;have HG:=hid (And.intro a0 a3);clear a8 a0 a3 h1 h2 hI hs hl
    go_in
    go_wp2_with fail;refine(a6.out _ a5.out).mono ?_;rintro en w1 ⟨rfl,a4⟩;obtain⟨a0,a3⟩:=HG.out;have a1:=a4.kp a0;have a2:=a4.kp a3;have x2:=ce2 a1;have y3:=ce2 a2;have l1:=ae a1;have l2:=ae a2;have b0:=a5.out.trans a4;clear a4 HG a0 a3 a1 a2 a5 a6;go_wp2_with fail;refine(a7.out _ b0).mono ?_;rintro en w2 ⟨rfl,b1⟩;have b2:=b0.trans b1;clear x2 y3 a7
    cases f1
    all_goals
     go_wp2_with fail
     all_goals go_ret
     all_goals exact⟨rfl,b2⟩
   ·have y1:((s.length:Int)!=(s'.length:Int))=false:=by rw[h1];simp
    have y2:((l.length:Int)!=(l'.length:Int))=true:=by rw[bne_iff_ne];omega
    rw[decide_eq_true h1,decide_eq_false h2];clear h1 h2
    go_in
    go_wp2_with fail
    all_goals go_ret
    all_goals exact⟨rfl,(But.alloc _ _ _).trans (But.alloc _ _ _)⟩
  ·have y1:((s.length:Int)!=(s'.length:Int))=true:=by rw[bne_iff_ne];omega
   rw[decide_eq_false h1];clear h1
   go_in
   go_wp2_with fail
   all_goals go_ret
   all_goals exact⟨rfl,(But.alloc _ _ _).trans (But.alloc _ _ _)⟩
def B5 (cs:List Cls) (t:List St) (s l:List UInt8) (z:Int):Bool:=decide (z<0)||BD cs s l (t.getD z.toNat none)
theorem BO {cs:List Cls} {t:List St} {s l:List UInt8} {z:Int} (h:z<0):B5 cs t s l z=true:=by simp[B5,h]
theorem BQ {cs:List Cls} {t:List St} {s l:List UInt8} {k:Nat} {q:Bool} (h:BD cs s l (t.getD k none)=q):B5 cs t s l (k:Int)=q:=by
 unfold B5;rw[decide_eq_false (by omega),Int.toNat_natCast,h]
 rfl
def BE (cs:List Cls) (t:List St) (x y:Int) (s l:List UInt8):Bool:=
 if(t.length:Int)≤x∨(t.length:Int)≤y then false else B5 cs t s l x&&B5 cs t s l y
def BF (im:Img) (bd:Bod) (t:List St) (i:Nat) (X:Ins) (st lo:List UInt8):Bool:=match df im.classes im.sigs bd X st lo with
 |none=>false
 |some (s,l)=>BE im.classes t (eg X i).1 (eg X i).2 s l
def BW (n:Nat) (t:List St):Prop:= ∀(k:Nat) s l,t[k]?=some (some (s,l))→(∀c∈s,okT n c=true)∧(∀c∈l,okT n c=true)∧s.length≤150000000∧l.length≤150000000
theorem Cg (bi:Nat) (im:Img) (bd:Bod) (ak:Option Addr) (capk b3:Nat) (v:Value) (t:List St) (i:Nat) (st lo:List UInt8) (X:Ins) (w:World) (hI:dk w bi im) (hW:WfI im) (hbd:WfB im.classes im.sigs bd) (hc:w.ownsRow 0 144 4 (.slice ak bd.code.length capk) bd.code.length (cz bd.code)) (htl:t.length=bd.code.length) (hok:BW im.classes.length t) (hO:w.ownsRow b3 91 3 v t.length (tdC t)) (hi:t[i]?=some (some (st,lo))) (hlo:lo.length=bd.locals.length) (hX:bd.code[i]?=some X):
  Calls Tryz.prog 57 #[.pointer (some ⟨bi,0,none⟩),.agg #[.int .i64 bd.cls,.int .i64 bd.meth,.string ⟨bd.locals.toArray⟩,.slice ak bd.code.length capk,.slice none 0 0],v,.int .i64 i] w fun en w'=>en= .returned (.bool (BF im bd t i X st lo))∧But (fun _=>False) w w':=by
 have i5:=hbd.len;have j4:=(List.getElem?_eq_some_iff.1 hi).1;have h8:=hbd.code X (List.mem_of_getElem? hX);obtain⟨o1,o2,o3,o4⟩:=hok i st lo hi;obtain⟨KB,e6⟩: ∃KB,BF im bd t i X st lo=KB:=⟨_,rfl⟩;rw[e6]
 obtain⟨s',l',okb,i3,f7⟩: ∃(s' l':List UInt8) (okb:Bool),uJ (df im.classes im.sigs bd X st lo) st lo= .tuple #[.agg #[.bool true,.string ⟨s'.toArray⟩,.string ⟨l'.toArray⟩],.bool okb]∧(((okb=false∧KB=false)∨(okb=true∧KB=BE im.classes t (eg X i).1 (eg X i).2 s' l'))∧(∀c∈s',okT im.classes.length c=true)∧(∀c∈l',okT im.classes.length c=true)∧s'.length≤200000000∧l'.length≤200000000):=by
  unfold BF at e6
  cases he:df im.classes im.sigs bd X st lo with
  |none=>
   rw[he]at e6;exact⟨st,lo,false,rfl,Or.inl ⟨rfl,e6.symm⟩,o1,o2,by omega,by omega⟩
  |some m=>
   obtain⟨s,l⟩:=m;rw[he]at e6;have hz:=jo hW h8 ⟨o1,o2,hlo⟩ he;exact⟨s,l,true,rfl,Or.inr ⟨rfl,e6.symm⟩,hz.1.1,hz.1.2.1,by omega,by have:=hz.1.2.2;have:=hbd.loc.1;omega⟩
 obtain⟨f7,r1,r2,r3,r4⟩:=f7;obtain⟨av,cv,rfl⟩:=aq hO;obtain⟨gt,e1,a7,j5,f5⟩:=aD hO (by omega)
 cases e1
 obtain⟨gc,e1,f2,j1,f3⟩:=aD hc (by omega)
 cases e1
 have q0:w.cell? ⟨gt,i*3,none⟩=some (.bool true):=f5 _ _ (dx (q:=0) hi (by omega));have q1:w.cell? ⟨gt,i*3+1,none⟩=some (.string ⟨st.toArray⟩):=f5 _ _ (dx (q:=1) hi (by omega));have q2:w.cell? ⟨gt,i*3+2,none⟩=some (.string ⟨lo.toArray⟩):=f5 _ _ (dx (q:=2) hi (by omega));have p0:w.cell? ⟨gc,i*4,none⟩=some _:=f3 _ _ (dq (k:=0) hX (by omega));have p1:w.cell? ⟨gc,i*4+1,none⟩=some _:=f3 _ _ (dq (k:=1) hX (by omega));have p2:w.cell? ⟨gc,i*4+2,none⟩=some _:=f3 _ _ (dq (k:=2) hX (by omega));have p3:w.cell? ⟨gc,i*4+3,none⟩=some _:=f3 _ _ (dq (k:=3) hX (by omega));have f6:=hid (fun(wx:World) (h:But (fun _=>False) w wx)=>sQ bi im bd (some ⟨gc,0,none⟩) bd.code.length capk X st lo wx (hI.but h) hW hbd h8 o1 (by omega) hlo trivial)
 rw[i3]at f6;have i1:=hid (xq X i);have e5:=hid (fun(o:St) (wx:World) (h:But (fun _=>False) w wx)=>BL bi im.classes s' l' o wx (hI.but h).cls hW.cls hW.nc r1 r2 (by omega) (by omega));have c7:=hid f5;have h9:=hid f7;generalize (eg X i).1=wx at*;generalize (eg X i).2=wy at*;have e2:(w.alloc (.cells #[.int .i64 bd.cls,.int .i64 bd.meth,.string ⟨bd.locals.toArray⟩,.slice (some ⟨gc,0,none⟩) bd.code.length capk,.slice none 0 0] 52)).heap[w.heap.size]?=some (.cells #[.int .i64 bd.cls,.int .i64 bd.meth,.string ⟨bd.locals.toArray⟩,.slice (some ⟨gc,0,none⟩) bd.code.length capk,.slice none 0 0] 52):=heap_alloc_new w _
 have a6:But (fun _=>False) w (w.alloc (.cells #[.int .i64 bd.cls,.int .i64 bd.meth,.string ⟨bd.locals.toArray⟩,.slice (some ⟨gc,0,none⟩) bd.code.length capk,.slice none 0 0] 52)):=But.alloc _ _ _;have j3:(i:Int)<(t.length:Int):=by omega
 have j2:(i:Int)<(bd.code.length:Int):=by omega
 have i6:t.length≤100:=by omega
 clear f5 f3 hI hW hbd hc hO hi hX h8 hok i3 f7 r1 r2 r3 r4 o1 o2 o3 o4 e6 htl
 go_in
 go_wp2_with fail;revert e2 a6;generalize (w.alloc (.cells #[.int .i64 bd.cls,.int .i64 bd.meth,.string ⟨bd.locals.toArray⟩,.slice (some ⟨gc,0,none⟩) bd.code.length capk,.slice none 0 0] 52))=W;intro e2 a6;have b0:=ce0 e2;have b1:=ce1 e2;have b2:=ce2 e2;have g5:=ce3 e2;have b4:=ce4 e2;have e7:=ae e2;have h6:gt<W.heap.size:=Nat.lt_of_lt_of_le a7 a6.size;have e3:gc<W.heap.size:=Nat.lt_of_lt_of_le f2 a6.size;replace q0:=a6.kc q0 a7;replace q1:=a6.kc q1 a7;replace q2:=a6.kc q2 a7;replace p0:=a6.kc p0 f2;replace p1:=a6.kc p1 f2;replace p2:=a6.kc p2 f2;replace p3:=a6.kc p3 f2;have f8:But (fun _=>False) W W.drew:=But.drew _ _
 go_cut [9,10]from 14 (fun s9 s10 wc=> ∃bm,s9= .pointer (some ⟨bm,0,none⟩)∧s10= .bool okb∧But (fun _=>False) W wc∧wc.heap[bm]?=some (.cells #[.bool true,.string ⟨s'.toArray⟩,.string ⟨l'.toArray⟩] 91))
 case first=>
  refine aB (But (fun _=>False) W) 18 (by kernel_rfl) ?_
  iterate 11 (refine dt (v:=?_) rfl (by kernel_rfl) (fun _ _ _ h=>h) rfl f8 ?_ ?_;rotate_left;(focus (intro wS h;have Q0:=(h.kc b0 e7);have Q1:=(h.kc b1 e7);have Q2:=(h.kc b2 e7);have Q3:=(h.kc g5 e7);have Q4:=(h.kc b4 e7);have Q5:=(h.kc p0 e3);have Q6:=(h.kc p1 e3);have Q7:=(h.kc p2 e3);have Q8:=(h.kc p3 e3);have Q9:=(h.kc q0 h6);have i7:=(h.kc q1 h6);have j0:=(h.kc q2 h6);clear h;go_simp;try rfl));dsimp only[Act.put];try simp only[aK])
  refine nZ (q:=15) (o:= ?oE11) (oq:= ?oqE11) (rest:= ?rsE11) (restq:= ?rqE11) ?hoE11 ?hqE11 ?hrE11 ?stE11 ?sqE11
  case hoE11=>rfl
  case hqE11=>rfl
  case hrE11=>kernel_rfl
  case' stE11=>
   intro KS hKS;go_simp;refine(f6.out W.drew (a6.trans f8)).mono ?_;rintro en w1 ⟨rfl,e4⟩;have a2:But (fun _=>False) W w1:=f8.trans e4;refine hKS.out _ _ (fun _=>a2) ?_;clear hKS KS
   iterate 3 (refine aG (v:=?_) rfl (by kernel_rfl) (fun _ _ _ h=>h) rfl a2 ?_ ?_;rotate_left;(focus (intro wS h;clear h;go_simp;try rfl));dsimp only[Act.put];try simp only[aK])
   refine ag rfl (by kernel_rfl) ?_;intro KS hKS;go_simp;refine hKS.out _ _ (fun _=>a2.trans (But.alloc _ _ _)) ?_;clear hKS KS;refine ag rfl (by kernel_rfl) ?_;intro KS hKS;go_simp;refine hKS.out _ _ (fun _=>a2.trans (But.alloc _ _ _)) ?_;clear hKS KS;refine ag rfl (by kernel_rfl) ?_;intro KS hKS;go_simp;refine hKS.out _ _ (fun _=>a2.trans (But.alloc _ _ _)) ?_;clear hKS KS;refine aF rfl (by kernel_rfl) ?_;go_wp2_with fail
   go_meet
   case rel=>exact⟨_,rfl,rfl,a2.trans (But.alloc _ _ _),heap_alloc_new _ _⟩
  case' sqE11=>
   intro KS hKS;go_simp;have f0:But (fun _=>False) W (W.alloc (.cells #[.bool false,.string ⟨#[]⟩,.string ⟨#[]⟩] 91)).drew:=(But.alloc _ _ _).trans (But.drew _ _);have a8:(W.alloc (.cells #[.bool false,.string ⟨#[]⟩,.string ⟨#[]⟩] 91)).drew.heap[W.heap.size]?=some (.cells #[.bool false,.string ⟨#[]⟩,.string ⟨#[]⟩] 91):=heap_alloc_new _ _;revert f0 a8;generalize (W.alloc (.cells #[.bool false,.string ⟨#[]⟩,.string ⟨#[]⟩] 91)).drew=Wd;generalize i4:W.heap.size=bm;intro f0 a8;refine hKS.out _ _ (fun _=>f0) ?_;clear hKS KS;refine n8 rfl (by kernel_rfl) (by kernel_rfl) ?_;intro KS hKS;go_simp;refine(f6.out Wd (a6.trans f0)).mono ?_
   rintro en w1 ⟨rfl,e4⟩;have a2:But (fun _=>False) W w1:=f0.trans e4;have a5:=e4.kp a8;refine hKS.out _ _ (fun _=>a2) ?_;clear hKS KS
   iterate 3 (refine n9 (v:=?_) rfl (by kernel_rfl) (fun _ _ _ h=>h) rfl a2 ?_ ?_;rotate_left;(focus (intro wS h;clear h;go_simp;try rfl));dsimp only[Act.put];try simp only[aK])
   refine od ?_;have r0:=ce0 a5;have r1:=ce1 a5;have r2:=ce2 a5;have z0:w1.frozen? ⟨bm,0,none⟩=false:=frozen_of_row w1 bm 0 _ _ a5;have z1:w1.frozen? ⟨bm,1,none⟩=false:=frozen_of_row w1 bm 1 _ _ a5;have z2:w1.frozen? ⟨bm,2,none⟩=false:=frozen_of_row w1 bm 2 _ _ a5;have rlt:=ae a5;have h4: ∀j u (wx:World),But (fun _=>False) W wx→But (fun _=>False) W (wx.setCell ⟨bm,j,none⟩ u):=fun j u wx h=>h.next (But.setB _ _ _ _) (fun k hk e=>by have e:k=bm:=e;omega)
   have d6:=h4 2 (.string ⟨l'.toArray⟩) _ (h4 1 (.string ⟨s'.toArray⟩) _ (h4 0 (.bool true) _ a2));have g0:=heap_setCell_same _ bm 2 _ _ (.string ⟨l'.toArray⟩) (heap_setCell_same _ bm 1 _ _ (.string ⟨s'.toArray⟩) (heap_setCell_same _ bm 0 _ _ (.bool true) a5));refine ag rfl (by kernel_rfl) ?_;intro KS hKS;go_simp;refine hKS.out _ _ (fun _=>d6) ?_;clear hKS KS;refine ag rfl (by kernel_rfl) ?_;intro KS hKS;go_simp;refine hKS.out _ _ (fun _=>d6) ?_;clear hKS KS;refine aF rfl (by kernel_rfl) ?_;go_wp2_with fail
   go_meet
   case rel=>exact⟨bm,rfl,rfl,d6,g0⟩
 case rest=>
  obtain⟨bm,rfl,rfl,b6,g0⟩:=hcut;rcases h9.out with⟨rfl,rfl⟩ | ⟨rfl,hK⟩
  ·go_wp2_with fail
   all_goals go_ret
   all_goals exact⟨rfl,a6.trans b6⟩
  have HK:=hid hK;have b3c:=b6.kc g5 e7;have p0c:=b6.kc p0 e3;have p1c:=b6.kc p1 e3;have p2c:=b6.kc p2 e3;have p3c:=b6.kc p3 e3;have h3:=Nat.lt_of_lt_of_le e7 b6.size;have h5:=Nat.lt_of_lt_of_le e3 b6.size;have f1:=a6.trans b6;clear b0 b1 b2 g5 b4 p0 p1 p2 p3 q0 q1 q2 e2 f8 f6 hK h9;go_wp2_with fail;refine(i1.out _ (by omega)).mono ?_;rintro en w1 ⟨rfl,e4⟩;have e9:=e4.kp g0;have a0:=f1.trans e4;clear b3c p0c p1c p2c p3c h3 h5 g0 e4 i1 b6 a6 f1;have m0:=ce0 e9;have m1:=ce1 e9;have m2:=ce2 e9;have b5:=ae e9;have a1:gt<w1.heap.size:=Nat.lt_of_lt_of_le a7 a0.size;have i0:=hid e9;clear e9
  by_cases hx:(t.length:Int)≤wx
  ·go_wp2_with fail
   all_goals go_ret
   all_goals exact⟨by rw[HK.out];simp[BE,hx],a0⟩
  by_cases hy:(t.length:Int)≤wy
  ·go_wp2_with fail
   all_goals go_ret
   all_goals exact⟨by rw[HK.out];simp[BE,hy],a0⟩
  rcases Int.lt_or_le wx 0 with h1|h1
  ·have x2: ¬(0≤wx):=by omega
   rcases Int.lt_or_le wy 0 with h2|h2
   ·have y2: ¬(0≤wy):=by omega
    go_wp2_with fail
    all_goals go_ret
    have a3:KB=true:=by rw[HK.out,BE,if_neg (by omega),BO h1,BO h2];rfl
    all_goals exact⟨by rw[a3];rfl,a0⟩
   ·obtain⟨k2,rfl⟩: ∃k2:Nat,wy=k2:=⟨wy.toNat,by omega⟩;have y3:(k2:Int)<(t.length:Int):=by omega
    have HX:=hid (And.intro hx hy);have nx: ¬((t.length:Int)≤(k2:Int)):=by omega
    obtain⟨o,ho⟩: ∃o,t[k2]?=some o:=⟨_,List.getElem?_eq_getElem (by omega)⟩;obtain⟨d0,d1,d2,hd⟩: ∃d0 d1 d2,stV o=#[d0,d1,d2]:=by cases o<;>exact⟨_,_,_,rfl⟩
    have t0:w1.cell? ⟨gt,k2*3,none⟩=some d0:=a0.kc (c7.out _ _ (by rw[show k2*3=k2*3+0 from rfl,dx (q:=0) ho (by omega),hd];rfl)) a7;have t1:w1.cell? ⟨gt,k2*3+1,none⟩=some d1:=a0.kc (c7.out _ _ (by rw[dx (q:=1) ho (by omega),hd];rfl)) a7;have t2:w1.cell? ⟨gt,k2*3+2,none⟩=some d2:=a0.kc (c7.out _ _ (by rw[dx (q:=2) ho (by omega),hd];rfl)) a7;have g2:=hid (fun wx h=>e5.out o wx h);rw[hd]at g2;have a8:t.getD k2 none=o:=by simp[List.getD,ho]
    have e8:=hid a8;have g6:But (fun _=>False) w1 w1.drew:=But.drew _ _;obtain⟨q,hq⟩: ∃q,BD im.classes s' l' o=q:=⟨_,rfl⟩;rw[hq]at g2;have HQ:=hid hq;clear ho hd a8 hq;go_wp2_with fail;refine aB (But (fun _=>False) w1) 7 (by kernel_rfl) ?_
    iterate 6 (refine dt (v:=?_) rfl (by kernel_rfl) (fun _ _ _ h=>h) rfl g6 ?_ ?_;rotate_left;(focus (intro wS h;have q0:=(h.kc m0 b5);have q1:=(h.kc m1 b5);have q2:=(h.kc m2 b5);have q3:=(h.kc t0 a1);have q4:=(h.kc t1 a1);have q5:=(h.kc t2 a1);clear h;go_simp;try rfl));dsimp only[Act.put];try simp only[aK])
    refine ag rfl (by kernel_rfl) ?_;intro KS hKS;go_simp;refine(g2.out _ (a0.trans g6)).mono ?_;rintro en w9 ⟨rfl,d6⟩;have e0:=g6.trans d6;refine hKS.out _ _ (fun _=>e0) ?_;clear hKS KS;refine ag rfl (by kernel_rfl) ?_;intro KS hKS;go_simp;refine hKS.out _ _ nofun ?_;clear hKS KS;refine aF rfl (by kernel_rfl) ?_;go_wp2_with fail
    all_goals go_ret
    have h7:BD im.classes s' l' (t.getD k2 none)=q:=by rw[e8.out];exact HQ.out
    have a3:KB=q:=by rw[HK.out,BE,if_neg (by have:=HX.out;omega),BO h1,BQ h7];rfl
    all_goals exact⟨by rw[a3];rfl,a0.trans e0⟩
  ·obtain⟨k1,rfl⟩: ∃k1:Nat,wx=k1:=⟨wx.toNat,by omega⟩;have x3:(k1:Int)<(t.length:Int):=by omega
   obtain⟨o,ho⟩: ∃o,t[k1]?=some o:=⟨_,List.getElem?_eq_getElem (by omega)⟩;obtain⟨d0,d1,d2,hd⟩: ∃d0 d1 d2,stV o=#[d0,d1,d2]:=by cases o<;>exact⟨_,_,_,rfl⟩
   have t0:w1.cell? ⟨gt,k1*3,none⟩=some d0:=a0.kc (c7.out _ _ (by rw[show k1*3=k1*3+0 from rfl,dx (q:=0) ho (by omega),hd];rfl)) a7;have t1:w1.cell? ⟨gt,k1*3+1,none⟩=some d1:=a0.kc (c7.out _ _ (by rw[dx (q:=1) ho (by omega),hd];rfl)) a7;have t2:w1.cell? ⟨gt,k1*3+2,none⟩=some d2:=a0.kc (c7.out _ _ (by rw[dx (q:=2) ho (by omega),hd];rfl)) a7;have g3:=hid (fun wx h=>e5.out o wx h);rw[hd]at g3;have a8:t.getD k1 none=o:=by simp[List.getD,ho]
   have e8:=hid a8;have g7:But (fun _=>False) w1 w1.drew:=But.drew _ _;obtain⟨q,hq⟩: ∃q,BD im.classes s' l' o=q:=⟨_,rfl⟩;rw[hq]at g3;have HQ:=hid hq;clear ho hd a8 hq;go_wp2_with fail;refine aB (But (fun _=>False) w1) 7 (by kernel_rfl) ?_
   iterate 6 (refine dt (v:=?_) rfl (by kernel_rfl) (fun _ _ _ h=>h) rfl g7 ?_ ?_;rotate_left;(focus (intro wS h;have q0:=(h.kc m0 b5);have q1:=(h.kc m1 b5);have q2:=(h.kc m2 b5);have q3:=(h.kc t0 a1);have q4:=(h.kc t1 a1);have q5:=(h.kc t2 a1);clear h;go_simp;try rfl));dsimp only[Act.put];try simp only[aK])
   refine ag rfl (by kernel_rfl) ?_;intro KS hKS;go_simp;refine(g3.out _ (a0.trans g7)).mono ?_;rintro en w2 ⟨rfl,d6⟩;have e0:=g7.trans d6;refine hKS.out _ _ (fun _=>e0) ?_;clear hKS KS;refine ag rfl (by kernel_rfl) ?_;intro KS hKS;go_simp;refine hKS.out _ _ nofun ?_;clear hKS KS;refine aF rfl (by kernel_rfl) ?_;have a4:=a0.trans e0;have f4:=e0.kp i0.out;clear m0 m1 m2 b5 a1 t0 t1 t2 i0;have m0:=ce0 f4;have m1:=ce1 f4;have m2:=ce2 f4;have b5:=ae f4;have a1:gt<w2.heap.size:=Nat.lt_of_lt_of_le a7 a4.size;clear f4;have i2:BD im.classes s' l' (t.getD k1 none)=q:=by rw[e8.out];exact HQ.out
   have g1:=hid i2;clear e8 HQ i2
   cases q with
   |false=>
    go_wp2_with fail
    all_goals go_ret
    have a3:KB=false:=by rw[HK.out,BE,if_neg (by omega),BQ g1.out];rfl
    all_goals exact⟨by rw[a3];rfl,a4⟩
   |true=>
    rcases Int.lt_or_le wy 0 with h2|h2
    ·have y2: ¬(0≤wy):=by omega
     go_wp2_with fail
     all_goals go_ret
     have a3:KB=true:=by rw[HK.out,BE,if_neg (by omega),BQ g1.out,BO h2];rfl
     all_goals exact⟨by rw[a3];rfl,a4⟩
    ·obtain⟨k2,rfl⟩: ∃k2:Nat,wy=k2:=⟨wy.toNat,by omega⟩;have y3:(k2:Int)<(t.length:Int):=by omega
     have HX:=hid (And.intro hx hy);have nx: ¬((t.length:Int)≤(k2:Int)):=by omega
     obtain⟨o,ho⟩: ∃o,t[k2]?=some o:=⟨_,List.getElem?_eq_getElem (by omega)⟩;obtain⟨d0,d1,d2,hd⟩: ∃d0 d1 d2,stV o=#[d0,d1,d2]:=by cases o<;>exact⟨_,_,_,rfl⟩
     have t0:w2.cell? ⟨gt,k2*3,none⟩=some d0:=a4.kc (c7.out _ _ (by rw[show k2*3=k2*3+0 from rfl,dx (q:=0) ho (by omega),hd];rfl)) a7;have t1:w2.cell? ⟨gt,k2*3+1,none⟩=some d1:=a4.kc (c7.out _ _ (by rw[dx (q:=1) ho (by omega),hd];rfl)) a7;have t2:w2.cell? ⟨gt,k2*3+2,none⟩=some d2:=a4.kc (c7.out _ _ (by rw[dx (q:=2) ho (by omega),hd];rfl)) a7;have g4:=hid (fun wx h=>e5.out o wx h);rw[hd]at g4;have a8:t.getD k2 none=o:=by simp[List.getD,ho]
     have e8:=hid a8;have h0:But (fun _=>False) w2 w2.drew:=But.drew _ _;obtain⟨q,hq⟩: ∃q,BD im.classes s' l' o=q:=⟨_,rfl⟩;rw[hq]at g4;have HQ:=hid hq;clear ho hd a8 hq;go_wp2_with fail;refine aB (But (fun _=>False) w2) 7 (by kernel_rfl) ?_
     iterate 6 (refine dt (v:=?_) rfl (by kernel_rfl) (fun _ _ _ h=>h) rfl h0 ?_ ?_;rotate_left;(focus (intro wS h;have q0:=(h.kc m0 b5);have q1:=(h.kc m1 b5);have q2:=(h.kc m2 b5);have q3:=(h.kc t0 a1);have q4:=(h.kc t1 a1);have q5:=(h.kc t2 a1);clear h;go_simp;try rfl));dsimp only[Act.put];try simp only[aK])
     refine ag rfl (by kernel_rfl) ?_;intro KS hKS;go_simp;refine(g4.out _ (a4.trans h0)).mono ?_;rintro en w9 ⟨rfl,d6⟩;have e0:=h0.trans d6;refine hKS.out _ _ (fun _=>e0) ?_;clear hKS KS;refine ag rfl (by kernel_rfl) ?_;intro KS hKS;go_simp;refine hKS.out _ _ nofun ?_;clear hKS KS;refine aF rfl (by kernel_rfl) ?_;go_wp2_with fail
     all_goals go_ret
     have h7:BD im.classes s' l' (t.getD k2 none)=q:=by rw[e8.out];exact HQ.out
     have a3:KB=q:=by rw[HK.out,BE,if_neg (by have:=HX.out;omega),BQ g1.out,BQ h7];rfl
     all_goals exact⟨by rw[a3];rfl,a4.trans e0⟩
end
end Go.Proofs.YtpfkkmacakjmbaaGreatDoor
