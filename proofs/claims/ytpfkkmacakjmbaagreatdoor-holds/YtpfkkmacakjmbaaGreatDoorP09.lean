import Derived.Test.YtpfkkmacakjmbaaGreatDoorP08
import Derived.Test.YtpfkkmacakjmbaaGreatDoorP02
set_option maxRecDepth 100000
set_option maxHeartbeats 6400000
set_option linter.unusedSimpArgs false
set_option linter.unusedVariables false
namespace Go.Proofs.YtpfkkmacakjmbaaGreatDoor
section
open Go Go.RowKit Sp
theorem uG {bs:List Bod} {x m:Int} {k:Nat} (hk:k<bs.length) (h:bs[k].cls=x∧bs[k].meth=m) (hno: ∀j (hj:j<bs.length),j<k→ ¬(bs[j].cls=x∧bs[j].meth=m)):eI bs x m=k:=by
 have:gL bs x m=some k:=by
  unfold gL;rw[List.findIdx?_eq_some_iff_getElem];refine⟨hk,by simp[h.1,h.2],fun j hj=> ?_⟩;have:=hno j (by omega) hj;simpa using this
 simp[eI,this]
theorem uH {bs:List Bod} {x m:Int} (hno: ∀j (hj:j<bs.length),¬(bs[j].cls=x∧bs[j].meth=m)):eI bs x m= -1:=by
 have:gL bs x m=none:=by
  unfold gL;rw[List.findIdx?_eq_none_iff];intro b hb;obtain⟨j,hj,rfl⟩:=List.getElem_of_mem hb;simpa using hno j hj
 simp[eI,this]
theorem ub (base bi:Nat) (v0 v1 v2:Value) (l:List (Bod×Value×Value)) (x m:Int) (w:World) (hl:l.length≤100) (hI:ImB w bi v0 v1 v2) (hO:w.ownsRow base 52 5 v2 l.length (cK l)):
  Calls Tryz.prog 132 #[.pointer (some ⟨bi,0,none⟩),.int .i64 x,.int .i64 m] w fun en w'=>en= .returned (.int .i64 (eI (l.map (·.1)) x m))∧w'=w:=by
 obtain⟨R,a2⟩: ∃R,eI (l.map (·.1)) x m=R:=⟨_,rfl⟩;rw[a2];have a5:Hid (eI (l.map (·.1)) x m=R):=a2;clear a2;obtain⟨ao,cap,rfl⟩:=aq hO;have d2:=hI.c2
 go_in
 go_wp2
 go_loop [7] (fun t=> ∃k:Nat,k≤l.length∧t= .int .i64 k∧Hid (∀j (hj:j<l.length),j<k→ ¬(l[j].1.cls=x∧l[j].1.meth=m))) (fun t=>l.length-(intOf t).toNat)
 case atStart=>exact⟨0,Nat.zero_le _,rfl,fun j hj h=>absurd h (by omega)⟩
 case round=>
  obtain⟨k,hk,rfl,HA⟩:=hrel
  by_cases hlt:k<l.length
  ·have a3:=List.getElem?_eq_getElem hlt;obtain⟨g,rfl,b0,b3,a0⟩:=aD hO (by omega);have a7:=a0 _ _ (kb a3);have a8:=a0 _ _ (ke a3);clear a0;have a6:(k:Int)<(l.length:Int):=by omega
   clear a3
   by_cases h1:l[k].1.cls=x
   ·by_cases h2:l[k].1.meth=m
    ·have a1:R=k:=by
      rw[←a5.out];refine uG (by simpa using hlt) (by simp[h1,h2]) (fun j hj a4=> ?_);have:=HA.out j (by simpa using hj) a4;simpa using this
     subst a1;have b1:(l[k].1.cls==x)=true:=by simpa using h1
     have b2:(l[k].1.meth==m)=true:=by simpa using h2
     clear h1 h2
     go_wp2
     go_ret;exact⟨rfl,rfl⟩
    ·have b1:(l[k].1.cls==x)=true:=by simpa using h1
     have b2:(l[k].1.meth==m)=false:=by simpa using h2
     have HN:Hid (∀j (hj:j<l.length),j<k+1→ ¬(l[j].1.cls=x∧l[j].1.meth=m)):=by
      intro j hj a4;rcases Nat.lt_or_ge j k with h|h
      ·exact HA.out j hj h
      ·have:j=k:=by omega
       subst this;exact fun h=>h2 h.2
     clear h1 h2
     go_wp2
     go_round
     case rel=>exact⟨k+1,by omega,by go_num,HN⟩
     case measure=>simp[intOf];omega
   ·have b1:(l[k].1.cls==x)=false:=by simpa using h1
    have HN:Hid (∀j (hj:j<l.length),j<k+1→ ¬(l[j].1.cls=x∧l[j].1.meth=m)):=by
     intro j hj a4;rcases Nat.lt_or_ge j k with h|h
     ·exact HA.out j hj h
     ·have:j=k:=by omega
      subst this;exact fun h=>h1 h.1
    clear h1
    go_wp2
    go_round
    case rel=>exact⟨k+1,by omega,by go_num,HN⟩
    case measure=>simp[intOf];omega
  ·have a1:R= -1:=by
    rw[←a5.out];refine uH (fun j hj=> ?_);have:=HA.out j (by simpa using hj) (by simp at hj;omega);simpa using this
   subst a1
   go_wp2
   go_ret;exact⟨rfl,rfl⟩
end
section
open Go Go.RowKit Sp
attribute [local go_sem ↓] Go.wp_at_zero Go.wp_at_succ
theorem xb:(Tryz.prog.info? 52).map (fun i=>(i.zero,i.size,i.bytes))=some (some (.agg #[.int .i64 0,.int .i64 0,.string ⟨#[]⟩,.slice none 0 0,.slice none 0 0]),5,80):=by kernel_rfl
structure pr (w:World) (top:Nat) (v2:Value) (l:List (Bod×Value×Value)):Prop where
 own:w.ownsRow top 52 5 v2 l.length (cK l)
 code: ∀x∈l,w.ownsRow top 144 4 x.2.1 x.1.code.length (cz x.1.code)∧x.2.2= .slice none 0 0∧(∀g,x.2.1.ownBlock=some g→v2.ownBlock≠some g)
theorem pr.but {F:Nat→Prop} {w w':World} {top:Nat} {v2:Value} {l:List (Bod×Value×Value)} (h:pr w top v2 l) (hb:But F w w') (hF: ∀k,F k→k<top):pr w' top v2 l:=
 ⟨ah h.own hb (fun g hg hf=>by have:=aj h.own g hg;have:=hF g hf;omega),fun x hx=>⟨ah (h.code x hx).1 hb (fun g hg hf=>by have:=aj (h.code x hx).1 g hg;have:=hF g hf;omega),(h.code x hx).2⟩⟩
section
variable (b:Nat) (s:ByteArray) (i:Nat) (bi:Nat) (vc vt:Value) (w:World)
theorem ov (base top:Nat) (cs:List Cls) (gs:List Sig) (v2:Value) (l:List (Bod×Value×Value)) (cl me:Int) (loc:List UInt8) (hll:l.length≤7) (hloc:loc.length≤5) (hs:s.size≤2000) (hbi:b≠bi) (hbb:b<base) (hbib:bi<base) (hbt:base≤top) (hR:RdB w b s i false false bi vc vt) (hH:dC w base top bi cs gs v2) (hBd:pr w top v2 l) (htw:top≤w.heap.size):
  Calls Tryz.prog 80 #[.pointer (some ⟨b,0,none⟩),.agg #[.int .i64 cl,.int .i64 me,.string ⟨loc.toArray⟩,.slice none 0 0,.slice none 0 0]] w fun en w'=>en= .returned (.tuple #[])∧But (fun k=>k=b∨k=bi∨top≤k) w w'∧
   ∃j bad vc' vt',RdB w' b s j bad false bi vc' vt'∧
    ((bad=false∧ ∃is vk v2',cD s cs gs.length loc.length 100 [] i= .ok (is,j)∧dC w' base top bi cs gs v2'∧pr w' top v2' (l++ [(⟨cl,me,loc,is⟩,vk,.slice none 0 0)]))∨(bad=true∧cD s cs gs.length loc.length 100 [] i= .error j)):=by
 obtain⟨i0,i3,j3,j4,j5⟩:=info_parts xb;have c3:=hR.c3;have c5:=hR.c5;have c6:=hR.c6;have f5:=hR.fz 5;have f6:=hR.fz 6;have blt:=hR.lt
 go_in
 go_wp2_with fail;have h8:RdB ((w.setCell ⟨b,5,none⟩ (.slice none 0 0)).setCell ⟨b,6,none⟩ (.slice none 0 0)) b s i false false bi (.slice none 0 0) (.slice none 0 0):=(hR.set5 _).set6 _;have g7:But (· =b) w ((w.setCell ⟨b,5,none⟩ (.slice none 0 0)).setCell ⟨b,6,none⟩ (.slice none 0 0)):=(But.setB _ _ _ _).trans (But.setB _ _ _ _);have j1:((w.setCell ⟨b,5,none⟩ (.slice none 0 0)).setCell ⟨b,6,none⟩ (.slice none 0 0)).heap.size=w.heap.size:=by rw[br,br]
 generalize ((w.setCell ⟨b,5,none⟩ (.slice none 0 0)).setCell ⟨b,6,none⟩ (.slice none 0 0))=w0 at*;have f8:But (· =b) w (w0.alloc (.cells #[.int .i64 cl,.int .i64 me,.string ⟨loc.toArray⟩,.slice none 0 0,.slice none 0 0] 52)):=g7.trans (But.alloc _ _ _);have g5:bi<base:=hbib;refine(wZ b s i false bi _ _ base top cs gs v2 loc.length hloc hs hbi hbb (h8.alloc _) (hH.but f8 (fun h=>hbi h.symm) (fun k h=>by omega))).mono ?_;rintro en w1 ⟨rfl,g0,j,bad,l3,f1,e0⟩
 have c7:w1.heap[w.heap.size]?=some (.cells #[.int .i64 cl,.int .i64 me,.string ⟨loc.toArray⟩,.slice none 0 0,.slice none 0 0] 52):=by
  rw[g0.block _ (by simp;omega) (by omega)];exact au j1 _
 have b4:But (· =b) w w1:=f8.trans g0;have e2:=f1.c2;clear c3 c5 c6 f5 f6;rcases e0 with⟨rfl,is,a3,b6,i4,a7⟩ | ⟨rfl,a3⟩
 ·have HC:Hid (cD s cs gs.length loc.length 100 [] i= .ok (is,j+1)):=a3;obtain⟨ak,capk,rfl⟩:=aq a7;have HD:Hid (pk s j=46):=UInt8.toNat_inj.1 (by rw[b6];rfl);clear a3 b6;go_wp2_with fail;refine(wP b s j false false bi _ _ _ 46 hs f1 (by decide) HD.out).mono ?_;rintro en w2 ⟨rfl,e7,f2⟩
  have a5:w2.heap[w.heap.size]?=some (.cells #[.int .i64 cl,.int .i64 me,.string ⟨loc.toArray⟩,.slice none 0 0,.slice none 0 0] 52):=by
   rw[e7.block _ (ae c7) (by omega)];exact c7
  have f0:But (· =b) w w2:=b4.trans e7
  have g4:w2.ownsRow top 144 4 (.slice ak is.length capk) is.length (cz is):=by
   have:=ah a7 e7 (fun g hg h=>by have:=aj a7 g hg;simp at this;omega);refine⟨this.1,?_⟩;rcases this.2 with h| ⟨g,cp,cur,h1,h2,h3⟩
   ·exact Or.inl h
   ·exact Or.inr ⟨g,cp,cur,h1,by simp at h2;omega,h3⟩
  have a8: ∀g,(Value.slice ak is.length capk).ownBlock=some g→w.heap.size<g:=fun g hg=>by have:=aj a7 g hg;simp at this;omega
  have i5:=aS g4;have e5:=f2.c5;have e6:=f2.c6;have k3:=ce3 a5;have k4:=ce4 a5;have l1:w2.frozen? ⟨w.heap.size,3,none⟩=false:=frozen_of_row w2 _ 3 _ _ a5;have l2:w2.frozen? ⟨w.heap.size,4,none⟩=false:=frozen_of_row w2 _ 4 _ _ a5;have f4:b≠w.heap.size:=by omega
  have g6:w.heap.size≠b:=by omega
  clear e2;go_wp2_with fail;have a4:((w2.setCell ⟨w.heap.size,3,none⟩ (.slice ak is.length capk)).setCell ⟨w.heap.size,4,none⟩ (.slice none 0 0)).heap[w.heap.size]?=some (.cells #[.int .i64 cl,.int .i64 me,.string ⟨loc.toArray⟩,.slice ak is.length capk,.slice none 0 0] 52):=heap_setCell_same _ _ 4 _ _ _ (heap_setCell_same w2 _ 3 _ _ _ a5);have e8:But (· =w.heap.size) w2 ((w2.setCell ⟨w.heap.size,3,none⟩ (.slice ak is.length capk)).setCell ⟨w.heap.size,4,none⟩ (.slice none 0 0)):=(But.setB _ _ _ _).trans (But.setB _ _ _ _);generalize ((w2.setCell ⟨w.heap.size,3,none⟩ (.slice ak is.length capk)).setCell ⟨w.heap.size,4,none⟩ (.slice none 0 0))=W at*
  have f3:RdB W b s (j+1) false false bi (.slice ak is.length capk) (.slice none 0 0):=f2.but e8 f4;have e9:But (· =b) w W:=f0.next e8 (fun k hk h=>by omega);have h0:dC W base top bi cs gs v2:=hH.but e9 (fun h=>hbi h.symm) (fun k h=>by omega);have g1:pr W top v2 l:=hBd.but e9 (fun k h=>by omega);have b5:=ah g4 e8 (fun g hg h=>by have:=a8 g hg;omega);obtain⟨j2,i7,j0,v0,v1,e3,g2,g3,f7⟩:=h0;obtain⟨a2,a0,rfl⟩:=aq hBd.own;have b1:=g1.own;have b0:=aS hBd.own;have e4:=f3.c4;have i2:=e3.c2;have iz:=e3.fz 2;have bltW:=f3.lt;have biltW:=e3.lt;have gltW:=ae a4;have k0:=ce0 a4;have k1:=ce1 a4;have k2:=ce2 a4
  have j7:=ce3 a4;have k9:=ce4 a4;have ab:(Value.slice a2 l.length a0).ownBlock≠some b:=fun h=>by have:=aj b1 _ h;omega
  have abi:(Value.slice a2 l.length a0).ownBlock≠some bi:=fun h=>by have:=aj b1 _ h;omega
  have agk:(Value.slice a2 l.length a0).ownBlock≠some w.heap.size:=fun h=>by have:=b0 _ h;omega
  have h9:But (fun k=>(Value.slice a2 l.length a0).ownBlock=some k) W W.drew:=But.drew _ _;refine aB (But (fun k=>(Value.slice a2 l.length a0).ownBlock=some k) W) 14 (by kernel_rfl) ?_
  iterate 12 (refine aG (v:=?_) rfl (by kernel_rfl) (fun _ _ _ h=>h) rfl h9 ?_ ?_;rotate_left;(focus (intro wS h;have q0:=((h.cell (p:=⟨b,4,none⟩) bltW ab).trans e4);have q1:=((h.cell (p:=⟨bi,2,none⟩) biltW abi).trans i2);have q2:=((h.cell (p:=⟨w.heap.size,0,none⟩) gltW agk).trans k0);have q3:=((h.cell (p:=⟨w.heap.size,1,none⟩) gltW agk).trans k1);have q4:=((h.cell (p:=⟨w.heap.size,2,none⟩) gltW agk).trans k2);have q5:=((h.cell (p:=⟨w.heap.size,3,none⟩) gltW agk).trans j7);have q6:=((h.cell (p:=⟨w.heap.size,4,none⟩) gltW agk).trans k9);clear h;go_simp;try rfl));dsimp only[Act.put];try simp only[aK])
  refine ag rfl (by kernel_rfl) ?_;intro KS hKS;go_simp;refine hKS.out _ _ (fun _=>(But.alloc _ _ _).trans (But.drew _ _)) ?_;clear hKS KS;refine ag rfl (by kernel_rfl) ?_;intro KS hKS
  refine step_append_lies _ (by rfl) _ _ _ (by rfl) top 52 i0 _ 5 80 Tryz.underlying42 i3 j3 j4 j5 rfl (by omega) _ l.length (cK l) (by rfl) ((b1.alloc _).drew)
     ⟨W.heap.size,0,none⟩ 1 1 [.int .i64 cl,.int .i64 me,.string ⟨loc.toArray⟩,.slice ak is.length capk,.slice none 0 0] (by rfl) (by rfl) (World.news_of_block (cs:=#[.int .i64 cl,.int .i64 me,.string ⟨loc.toArray⟩,.slice ak is.length capk,.slice none 0 0]) (t:=52) (fr:=(0,0)) (heap_alloc_new W _)) (by simp[Value.oneCell'])
     (by omega) (by unfold maxLen;omega) (by omega) (by simp;omega) (W.heap.size+1) (by simp) ?_
  intro gg a1 w3 a6 d6 i1 i6;have b2:But (fun k=>(Value.slice a2 l.length a0).ownBlock=some k) W w3:=((But.alloc _ _ _).trans (But.drew _ _)).trans (aX d6);refine hKS.out _ _ (fun _=>b2) ?_;clear hKS KS;have y0:=(b2.cell (p:=⟨bi,2,none⟩) biltW abi).trans i2;have y1:=(b2.frozen (p:=⟨bi,2,none⟩) biltW abi).trans iz;refine ag rfl (by kernel_rfl) ?_;intro KS hKS;go_simp;refine hKS.out _ _ nofun ?_;clear hKS KS;refine ag rfl (by kernel_rfl) ?_;intro KS hKS;go_simp;refine hKS.out _ _ nofun ?_;clear hKS KS;refine ag rfl (by kernel_rfl) ?_;intro KS hKS;go_simp;refine hKS.out _ _ nofun ?_;clear hKS KS;refine aF rfl (by kernel_rfl) ?_
  have l0:=aj a6 gg rfl;have h7:RdB (w3.setCell ⟨bi,2,none⟩ (.slice (some ⟨gg,0,none⟩) (l.length+1) a1)) b s (j+1) false false bi (.slice ak is.length capk) (.slice none 0 0):=(f3.but b2 ab).but (But.setB _ _ _ _) hbi;have h4:ImB (w3.setCell ⟨bi,2,none⟩ (.slice (some ⟨gg,0,none⟩) (l.length+1) a1)) bi v0 v1 (.slice (some ⟨gg,0,none⟩) (l.length+1) a1):=(e3.but b2 abi).set2 _;have b3:But (fun k=>k=bi∨(Value.slice a2 l.length a0).ownBlock=some k) W (w3.setCell ⟨bi,2,none⟩ (.slice (some ⟨gg,0,none⟩) (l.length+1) a1)):=(b2.mono (fun _ _ h=>Or.inr h)).next (But.setB _ _ _ _) (fun _ _ h=>Or.inl h);have h6:=ah a6 (But.setB w3 bi 2 (.slice (some ⟨gg,0,none⟩) (l.length+1) a1)) (fun g hg h=>by have:=aj a6 g hg;omega)
  generalize (w3.setCell ⟨bi,2,none⟩ (.slice (some ⟨gg,0,none⟩) (l.length+1) a1))=w4 at*
  have e1: ∀g,g<W.heap.size→(Value.slice a2 l.length a0).ownBlock≠some g→gg≠g:=fun g hg hn h=>by
   rcases i1 with h'|h'
   ·exact hn (by rw[←h];exact h')
   ·omega
  go_wp2_with fail;go_end0;refine⟨rfl,(e9.mono (fun _ _ h=>Or.inl h)).next b3 (fun k hk h=> ?_),j+1,false,_,_,h7,Or.inl ⟨rfl,is,.slice ak is.length capk,.slice (some ⟨gg,0,none⟩) (l.length+1) a1,HC.out,⟨j2,i7,j0,v0,v1,h4,?_,?_,f7⟩,⟨?_,?_⟩⟩⟩
  ·rcases h with h|h
   ·exact Or.inr (Or.inl h)
   ·exact Or.inr (Or.inr (aj b1 _ h))
  ·exact ah g2 b3 (fun g hg h=>by
    have h1:=aj g2 g hg;have h2:=f7 g (Or.inl hg);rcases h with h|h
    ·omega
    ·have:=aj b1 _ h;omega)
  ·exact ah g3 b3 (fun g hg h=>by
    have h1:=aj g3 g hg;have h2:=f7 g (Or.inr hg);rcases h with h|h
    ·omega
    ·have:=aj b1 _ h;omega)
  ·rw[nC,List.length_append];exact h6
  ·intro x hx;rcases List.mem_append.1 hx with hx|hx
   ·obtain⟨h1,h2,h3⟩:=g1.code x hx;refine⟨ah h1 b3 (fun g hg h=> ?_),h2,fun g hg h=> ?_⟩
    ·have:=aj h1 g hg;rcases h with h|h
     ·omega
     ·exact h3 g hg h
    ·have h5:gg=g:=by simpa[Value.ownBlock]using h
     exact e1 g (aS h1 g hg) (h3 g hg) h5
   ·simp at hx;subst hx;refine⟨ah b5 b3 (fun g hg h=> ?_),rfl,fun g hg h=> ?_⟩
    ·have:=a8 g hg;rcases h with h|h
     ·omega
     ·have:=b0 _ h;omega
    ·have h5:gg=g:=by simpa[Value.ownBlock]using h
     refine e1 g (aS b5 g hg) (fun h=> ?_) h5;have:=b0 _ h;have:=a8 g hg;omega
 ·go_wp2_with fail;exact fV Tryz.results80 rfl ⟨rfl,b4.mono (fun _ _ h=>Or.inl h),j,true,_,_,f1,Or.inr ⟨rfl,a3⟩⟩
end
end
section
open Go Go.RowKit Sp
theorem xd (a d:Int) (c e:UInt8) (ha:a=c.toNat) (hd:d=e.toNat) (w:World):(convert 112 9 (.slice (some ⟨w.heap.size,0,none⟩) 2 2)).run Tryz.prog (w.alloc (.cells #[.int .u8 a,.int .u8 d] 5))= .ok (.string ⟨#[c,e]⟩) (w.alloc (.cells #[.int .u8 a,.int .u8 d] 5)):=by
 subst ha hd;exact AS c e w
theorem zb {s:ByteArray} {n i d j:Nat} (h:de s n i= .ok (d,j)):j=i+1∧d<n∧i<s.size:=by
 unfold de at h
 split at h
 ·rename_i hd
  cases h
  have h1:=jq.1 hd;exact⟨rfl,by omega,fg (by omega)⟩
 ·cases h
theorem qX (bs:List Bod) (x m:Int):(gL bs x m).isSome=decide (0≤eI bs x m):=by
 unfold eI
 cases gL bs x m with
 |none=>rfl
 |some k=>simp
def zc (R:Except Nat (List Bod×Nat)) (b:Nat) (s:ByteArray) (bi base top:Nat) (cs:List Cls) (gs:List Sig) (w':World):Prop:=
 ∃j bad vc' vt',RdB w' b s j bad false bi vc' vt'∧
  ((bad=false∧ ∃l v2,R= .ok (l.map (·.1),j)∧l.length≤6∧dC w' base top bi cs gs v2∧pr w' top v2 l)∨(bad=true∧R= .error j))
section
variable (b:Nat) (s:ByteArray) (i:Nat) (bi:Nat) (vc vt:Value) (w:World)
theorem sN (base top:Nat) (cs:List Cls) (gs:List Sig) (hs:s.size≤2000) (hbi:b≠bi) (hbb:b<base) (hbib:bi<base) (hbt:base≤top) (hR:RdB w b s i false false bi vc vt) (hH:dC w base top bi cs gs (.slice none 0 0)) (htw:top≤w.heap.size):
  Calls Tryz.prog 78 #[.pointer (some ⟨b,0,none⟩)] w fun en w'=>en= .returned (.tuple #[])∧But (fun k=>k=b∨k=bi∨top≤k) w w'∧
   zc (eG s cs gs 6 [] i) b s bi base top cs gs w':=by
 obtain⟨R,h2⟩: ∃R,eG s cs gs 6 [] i=R:=⟨_,rfl⟩;rw[h2];have j2:Hid (eG s cs gs 6 [] i=R):=h2;clear h2;have h5:=hH.nc;have m3:=hH.ns
 go_in
 go_wp2_with (go_at_call 127;refine(bG b s i false false bi vc vt _ hs hR).mono ?_;rintro en w' ⟨rfl,nn,rfl⟩)
 go_loopg [2] 7 (fun m c wr=> ∃(i':Nat) (bad':Bool) (vc vt:Value),c= .int .u8 (pk s i').toNat∧But (fun k=>k=b∨k=bi∨top≤k) w wr∧RdB wr b s i' bad' false bi vc vt∧
  ((bad'=false∧ ∃f l v2,m=f+1∧f+List.length l=6∧eG s cs gs f (l.map (·.1)) i'=R∧dC wr base top bi cs gs v2∧pr wr top v2 l)∨(bad'=true∧m=0∧R= .error i')))
 case atStart=>exact⟨i,false,_,_,rfl,But.drewN _ _ _,hR.drewN _,Or.inl ⟨rfl,6,[],_,rfl,rfl,j2.out,hH.but (But.drewN (fun _=>False) _ _) (fun h=>h) (fun k h=>h.elim),⟨du _ _ _ _,fun x hx=>by cases hx⟩⟩⟩
 case round=>
  obtain⟨i',bad',vc,vt,rfl,hB,a5,f0⟩:=hrel;have c1:=a5.c1;have c2:=a5.c2;have c4:=a5.c4;have f1:=a5.fz 1;have f2:=a5.fz 2;rcases f0 with⟨rfl,f,l,v2,rfl,l1,i4,f4,e9⟩ | ⟨rfl,rfl,rfl⟩
  ·have HT:Hid (eG s cs gs f (l.map (·.1)) i'=R):=i4;have l2:f+l.length≤6:=by omega
   have l3:6≤f+l.length:=by omega
   have blt:=a5.lt;clear i4 l1;obtain⟨a2,e5,rfl⟩:=aq e9.own;obtain⟨n4,_,_,v0,v1,e0,h9,f6,n1⟩:=f4;obtain⟨a0,cap0,rfl⟩:=aq h9;obtain⟨a1,cap1,rfl⟩:=aq f6;have d0:=e0.c0;have d1:=e0.c1;have d2:=e0.c2;have bilt:=e0.lt;have f4:dC wr base top bi cs gs (.slice a2 l.length e5):=⟨n4,h5,m3,_,_,e0,h9,f6,n1⟩
   by_cases hpe:(pk s i').toNat=59
   · --the end
    have hi:i'<s.size:=fg (by omega);have m2:(((pk s i').toNat:Int)!=59)=false:=by rw[bne_eq_false_iff_eq];omega
    have a4:R= .ok (l.map (·.1),i'+1):=by rw[←HT.out];cases f<;>simp[eG,hpe]
    subst a4;clear HT hpe;go_wp2_with fail;go_end0;have g5:But (· =b) wr (wr.setCell ⟨b,1,none⟩ (.int .i64 ((i':Int)+1))):=But.setB _ _ _ _;exact⟨rfl,hB.next g5 (fun _ _ h=>Or.inl h),i'+1,false,_,_,a5.inc,Or.inl ⟨rfl,l,_,rfl,by omega,f4.but g5 (fun h=>hbi h.symm) (fun k h=>by omega),e9.but g5 (fun k h=>by omega)⟩⟩
   ·have m2:(((pk s i').toNat:Int)!=59)=true:=by rw[bne_iff_ne];omega
    have d6:Hid (¬(pk s i').toNat=59):=hpe;clear hpe
    cases f with
    |zero=>
     have a4:R= .error i':=by rw[←HT.out];simp[eG,d6.out]
     subst a4;have h4:(6:Int)≤(l.length:Int):=by omega
     clear HT;go_wp2_with fail;exact fV Tryz.results78 rfl ⟨rfl,hB.next (But.setB _ _ _ _) (fun _ _ h=>Or.inl h),i',true,_,_,a5.set2 true,Or.inr ⟨rfl,rfl⟩⟩
    |succ f=>
     have h4: ¬(6:Int)≤(l.length:Int):=by omega
     go_wp2_with fail;refine(eM b s i' false bi vc vt _ _ cs.length rfl h5 hs a5).mono ?_;rintro en w1 ⟨g4,xv,j,bad,rfl,f7,a3⟩;have g6:But (fun k=>k=b∨k=bi∨top≤k) w w1:=hB.next g4 (fun _ _ h=>Or.inl h);have e2:=f7.c2;have e4:=f7.c4;have g7:=e0.but g4 (fun h=>hbi h.symm);clear c1 c2 c4 f1 f2 d0 d1 d2;have d0:=g7.c0;have d1:=g7.c1;rcases a3 with⟨rfl,x,rfl,o2,hx⟩ | ⟨rfl,hx⟩
     case inr=>
      have a4:R= .error j:=by rw[←HT.out];simp[eG,d6.out,hx]
      subst a4;clear HT hx;go_wp2_with fail;exact fV Tryz.results78 rfl ⟨rfl,g6,j,true,_,_,f7,Or.inr ⟨rfl,rfl⟩⟩
     have HX:Hid (dH s cs.length i'= .ok (x,j)):=hx;clear hx;go_wp2_with fail;refine(cL b s j false bi vc vt _ _ gs.length rfl hs f7).mono ?_;rintro en w2 ⟨h7,mv,p,bad,rfl,a6,a3⟩;have b3:But (· =b) wr w2:=g4.trans h7;have e6:But (fun k=>k=b∨k=bi∨top≤k) w w2:=hB.next b3 (fun _ _ h=>Or.inl h);have f5:=g7.but h7 (fun h=>hbi h.symm);clear e2 e4 d0 d1;have e1:=a6.c1;have e2:=a6.c2;have e4:=a6.c4;have g1:=a6.fz 1;have g2:=a6.fz 2;have d0:=f5.c0;have d1:=f5.c1;rcases a3 with⟨rfl,m,rfl,l6,hm⟩ | ⟨rfl,hm⟩
     case inr=>
      have a4:R= .error p:=by rw[←HT.out];simp[eG,d6.out,HX.out,hm]
      subst a4;clear HT hm;go_wp2_with fail;exact fV Tryz.results78 rfl ⟨rfl,e6,p,true,_,_,a6,Or.inr ⟨rfl,rfl⟩⟩
     have HM:Hid (de s gs.length j= .ok (m,p)):=hm;obtain⟨i2,m1,n6⟩:=zb hm;clear hm;have k9:w2.ownsRow top 52 5 (.slice a2 l.length e5) l.length (cK l):=ah e9.own b3 (fun g hg h=>by have:=aj e9.own g hg;omega);go_wp2_with fail;refine(ub top bi _ _ _ l (x:Int) (m:Int) _ (by omega) f5 k9).mono ?_;rintro en wx ⟨rfl,i5⟩;rw[i5];clear i5 wx;have e3:=qX (l.map (·.1)) (x:Int) (m:Int);obtain⟨oi,f3⟩: ∃oi,eI (l.map (·.1)) (x:Int) (m:Int)=oi:=⟨_,rfl⟩;rw[f3]at e3⊢;clear f3
     by_cases f3:0≤oi
     · --there is one already
      have b0:(gL (l.map (·.1)) (x:Int) (m:Int)).isSome=true:=by rw[e3];simpa using f3
      have a4:R= .error j:=by rw[←HT.out];simp only[eG,if_neg d6.out,HX.out,HM.out,if_pos b0]
      subst a4;have i3:(p:Int)-1=(j:Int):=by omega
      have j1:Hid ((p:Int)-1=(j:Int)):=i3;have n7:(1:Int)≤(p:Int):=by omega
      have o0:(p:Int)≤3000:=by omega
      clear HT b0 e3 i3 i2;go_wp2_with fail;refine fV Tryz.results78 rfl ⟨rfl,?_,j,true,vc,vt,?_,Or.inr ⟨rfl,rfl⟩⟩
      ·exact(e6.next (But.setB _ _ _ _) (fun _ _ h=>Or.inl h)).next (But.setB _ _ _ _) (fun _ _ h=>Or.inl h)
      ·rw[j1.out];exact(a6.set1 j).set2 true
     ·have a8: ¬(gL (l.map (·.1)) (x:Int) (m:Int)).isSome=true:=by rw[e3];simpa using f3
      have h6:Hid (¬(gL (l.map (·.1)) (x:Int) (m:Int)).isSome=true):=a8;clear a8 e3 i2;go_wp2_with fail;refine(il b s p false bi vc vt _ _ _ _ 3 cs.length 58 rfl rfl rfl hs h5 (by omega) (by decide) a6).mono ?_;rintro en w3 ⟨h8,o,q,bad,rfl,m4,f8,a3⟩;have b4:But (· =b) wr w3:=b3.trans h8;have e7:But (fun k=>k=b∨k=bi∨top≤k) w w3:=hB.next b4 (fun _ _ h=>Or.inl h);have k3:=f5.but h8 (fun h=>hbi h.symm);clear e1 e2 e4 g1 g2 d0 d1;have e2:=f8.c2;have e4:=f8.c4;have d1:=k3.c1;rcases a3 with⟨rfl,t,rfl,ht⟩ | ⟨rfl,ht⟩
      case inr=>
       have a4:R= .error q:=by rw[←HT.out];simp only[eG,if_neg d6.out,HX.out,HM.out,if_neg h6.out,ht]
       subst a4;clear HT ht;go_wp2_with fail;exact fV Tryz.results78 rfl ⟨rfl,e7,q,true,_,_,f8,Or.inr ⟨rfl,rfl⟩⟩
      have j3:Hid (tys s cs.length 58 3 [] p= .ok (t,q)):=ht;have n0:=fZ ht;simp only[List.length_nil,Nat.add_zero]at n0;clear ht;have h3:=List.getElem?_eq_getElem m1;have h0:=ah f6 b4 (fun g hg h=>by have:=aj f6 g hg;omega);obtain⟨gS,rfl,l4,l5,a7⟩:=aD h0 (by omega);have i0:=a7 _ _ (kg h3);clear a7;have m0:(m:Int)<(gs.length:Int):=by omega
      have o1:(x:Int)<4:=by omega
      obtain⟨arg,b6⟩: ∃arg:UInt8,gs[m].arg=arg:=⟨_,rfl⟩
      have g3:Hid (gM gs m=arg):=by
       show gM gs m=arg
       unfold gM;rw[h3];exact b6
      rw[b6]at i0;clear b6 h3;obtain⟨cx,c7⟩: ∃cx:UInt8,UInt8.ofNat (65+x)=cx:=⟨_,rfl⟩
      have i1:(65+(x:Int))=(cx.toNat:Int):=by
       rw[←c7,UInt8.toNat_ofNat'];omega
      have i7:Hid ((65+(x:Int))=(cx.toNat:Int)):=i1;have i6:Hid (UInt8.ofNat (65+x)=cx):=c7;have l0:=xd (65+(x:Int)) (arg.toNat:Int) cx arg i7.out rfl;have m5:(⟨#[cx,arg]⟩:ByteArray).size+(⟨t.toArray⟩:ByteArray).size≤1000:=by show 2+t.toArray.size≤1000;simp;omega
      clear i1 c7;go_wp2_with fail;rw[show(⟨#[cx,arg]⟩:ByteArray)++⟨t.toArray⟩=⟨(cx::arg::t).toArray⟩from cF [cx,arg] t];have b5:But (· =b) wr (w3.alloc (.cells #[.int .u8 (65+(x:Int)),.int .u8 arg.toNat] 5)):=b4.trans (But.alloc _ _ _);have n5:=hB.size;have n2:=e7.size;refine(ov b s q bi _ _ _ base top cs gs _ l (x:Int) (m:Int) (cx::arg::t) (by omega) (by simp;omega) hs hbi hbb hbib hbt (f8.alloc _) (f4.but b5 (fun h=>hbi h.symm) (fun k h=>by omega)) (e9.but b5 (fun k h=>by omega)) (by simp;omega)).mono ?_;rintro en w4 ⟨rfl,j5,j4,b2,o3,o4,h1,a3⟩;have j0:Hid ((b2=false∧ ∃is vk g0,cD s cs gs.length (cx::arg::t).length 100 [] q= .ok (is,j4)∧dC w4 base top bi cs gs g0∧pr w4 top g0 (l++ [(⟨x,m,cx::arg::t,is⟩,vk,.slice none 0 0)]))∨(b2=true∧cD s cs gs.length (cx::arg::t).length 100 [] q= .error j4)):=a3
      have e8:But (fun k=>k=b∨k=bi∨top≤k) w w4:=(hB.next b5 (fun _ _ h=>Or.inl h)).trans j5;clear a3 e2 e4 d1 i0 l0;go_wp2_with (go_at_call 127;refine(bG b s j4 b2 false bi _ _ _ hs h1).mono ?_;rintro en w' ⟨rfl,n3,rfl⟩)
      have b1: ∀r,cD s cs gs.length (cx::arg::t).length 100 [] q=r→R=match r with
        | .error e=> .error e
        | .ok (is,z)=>eG s cs gs f (l.map (·.1)++ [⟨x,m,cx::arg::t,is⟩]) z:=by
       intro r hr;rw[←HT.out];simp only[eG,if_neg d6.out,HX.out,HM.out,if_neg h6.out,j3.out,g3.out,i6.out];rw[show(cx::arg::t).length=t.length+2 from rfl]at hr;rw[hr];rcases r with e| ⟨is,z⟩<;>rfl
      rcases j0.out with⟨rfl,is,vk,g0,hc,k0,j7⟩ | ⟨rfl,hc⟩
      ·go_roundg (f+1)
       case measure=>omega
       case rel=>
        refine⟨j4,false,_,_,rfl,e8.next (But.drewN (fun _=>False) _ _) (fun _ _ h=>h.elim),h1.drewN _,Or.inl ⟨rfl,f,_,g0,rfl,by simp;omega,?_,k0.but (But.drewN (fun _=>False) _ _) (fun h=>h) (fun k h=>h.elim),j7.but (But.drewN (fun _=>False) _ _) (fun k h=>h.elim)⟩⟩;rw[List.map_append];exact(b1 _ hc).symm
      ·go_roundg 0
       case measure=>omega
       case rel=>exact⟨j4,true,_,_,rfl,e8.next (But.drewN (fun _=>False) _ _) (fun _ _ h=>h.elim),h1.drewN _,Or.inr ⟨rfl,rfl,b1 _ hc⟩⟩
  ·go_wp2_with fail;go_end0;exact⟨rfl,hB,i',true,_,_,a5,Or.inr ⟨rfl,rfl⟩⟩
end
theorem fB {w:World} {base base' e size n:Nat} {v:Value} {xs:List Value} (h:w.ownsRow base e size v n xs) (hb:base'≤base):w.ownsRow base' e size v n xs:=by
 refine⟨h.1,?_⟩;rcases h.2 with h2| ⟨g,cap,cur,h1,h2,h3⟩
 ·exact Or.inl h2
 ·exact Or.inr ⟨g,cap,cur,h1,by omega,h3⟩
def dk (w:World) (bi:Nat) (im:Img):Prop:=
 ∃v0 v1 v2 l,ImB w bi v0 v1 v2∧w.ownsRow 0 203 2 v0 im.classes.length (cE im.classes)∧w.ownsRow 0 129 2 v1 im.sigs.length (cy im.sigs)∧
  w.ownsRow 0 52 5 v2 l.length (cK l)∧l.map (·.1)=im.bodies∧
  ∀x∈l,w.ownsRow 0 144 4 x.2.1 x.1.code.length (cz x.1.code)∧x.2.2= .slice none 0 0
theorem dk.but {w w':World} {bi:Nat} {im:Img} (h:dk w bi im) (hb:But (fun _=>False) w w'):dk w' bi im:=by
 obtain⟨v0,v1,v2,l,hI,h0,h1,h2,hl,hc⟩:=h;exact⟨v0,v1,v2,l,hI.but hb (fun h=>h),ah h0 hb (fun _ _ h=>h),ah h1 hb (fun _ _ h=>h),ah h2 hb (fun _ _ h=>h),hl,fun x hx=>⟨ah (hc x hx).1 hb (fun _ _ h=>h),(hc x hx).2⟩⟩
def xe (R:Except Nat Img):Int:=match R with
 | .ok _=> -1
 | .error j=>j
def xf (R:Except Nat Img) (bi:Nat) (w':World):Prop:=match R with
 | .ok im=>dk w' bi im
 | .error _=>True
section
variable (s:ByteArray) (w:World)
theorem xg (hs:s.size≤2000):
  Calls Tryz.prog 52 #[.string s,.bool false] w fun en w'=>en= .returned (.tuple #[.pointer (some ⟨w.heap.size,0,none⟩),.int .i64 (xe (dp s))])∧But (fun _=>False) w w'∧xf (dp s) w.heap.size w':=by
 obtain⟨R,g0⟩: ∃R,dp s=R:=⟨_,rfl⟩;rw[g0];have a4:Hid (dp s=R):=g0;clear g0
 go_in
 go_wp2_with fail;have i2:RdB ((w.alloc (.cells #[.slice none 0 0,.slice none 0 0,.slice none 0 0] 44)).alloc (.cells #[.string s,.int .i64 0,.bool false,.bool false,.pointer (some ⟨w.heap.size,0,none⟩),.slice none 0 0,.slice none 0 0] 140)) (w.heap.size+1) s 0 false false w.heap.size (.slice none 0 0) (.slice none 0 0):=au (by simp) _;have h8:ImB ((w.alloc (.cells #[.slice none 0 0,.slice none 0 0,.slice none 0 0] 44)).alloc (.cells #[.string s,.int .i64 0,.bool false,.bool false,.pointer (some ⟨w.heap.size,0,none⟩),.slice none 0 0,.slice none 0 0] 140)) w.heap.size (.slice none 0 0) (.slice none 0 0) (.slice none 0 0):=ImB.but (w:=w.alloc (.cells #[.slice none 0 0,.slice none 0 0,.slice none 0 0] 44)) (heap_alloc_new w _) (But.alloc (fun _=>False) _ _) (fun h=>h)
 have h4:But (fun _=>False) w ((w.alloc (.cells #[.slice none 0 0,.slice none 0 0,.slice none 0 0] 44)).alloc (.cells #[.string s,.int .i64 0,.bool false,.bool false,.pointer (some ⟨w.heap.size,0,none⟩),.slice none 0 0,.slice none 0 0] 140)):=(But.alloc _ _ _).trans (But.alloc _ _ _);have l0:((w.alloc (.cells #[.slice none 0 0,.slice none 0 0,.slice none 0 0] 44)).alloc (.cells #[.string s,.int .i64 0,.bool false,.bool false,.pointer (some ⟨w.heap.size,0,none⟩),.slice none 0 0,.slice none 0 0] 140)).heap.size=w.heap.size+2:=by simp
 generalize ((w.alloc (.cells #[.slice none 0 0,.slice none 0 0,.slice none 0 0] 44)).alloc (.cells #[.string s,.int .i64 0,.bool false,.bool false,.pointer (some ⟨w.heap.size,0,none⟩),.slice none 0 0,.slice none 0 0] 140))=w0 at*;have e8:w.heap.size+1≠w.heap.size:=by omega
 refine(qW (w.heap.size+1) s 0 false w.heap.size _ _ w0 hs e8 i2 h8).mono ?_;rintro en w1 ⟨rfl,g2,a8⟩;have b6:But (fun _=>False) w w1:=h4.next g2 (fun k hk h=>by omega);have j7:=g2.size;rcases hc1:di s 4 [] 0 with j| ⟨cs,j⟩
 ·rw[hc1]at a8;simp only at a8;have e1:=a8.c1;have e2:=a8.c2;have e4:=a8.c4;have a1:R= .error j:=by rw[←a4.out];simp[dp,hc1]
  subst a1;clear a4;go_wp2_with fail
  go_quiet (fail)
  go_wp2
  go_ret2
  exact⟨rfl,b6.next (But.drewN (fun _=>False) _ _) (fun _ _ h=>h),trivial⟩
 rw[hc1]at a8;obtain⟨f7,v0,h9,f6⟩:=a8;have b2:Hid (di s 4 [] 0= .ok (cs,j)):=hc1;obtain⟨h0,a5⟩:=oP hc1;clear hc1;obtain⟨a0,cap0,rfl⟩:=aq f6;have e1:=f7.c1;have e2:=f7.c2;go_wp2_with fail;refine(wW (w.heap.size+1) s j false w.heap.size _ _ w1 a0 cs.length cap0 a5 hs e8 f7 h9).mono ?_;rintro en w2 ⟨rfl,f3,b1⟩;have c7:But (fun _=>False) w w2:=b6.next f3 (fun k hk h=>by omega);have k0:=f3.size;clear e1 e2;rcases hc2:eF s cs.length 3 [] j with j2| ⟨gs,j2⟩
 ·rw[hc2]at b1;simp only at b1;have e1:=b1.c1;have e2:=b1.c2;have e4:=b1.c4;have a1:R= .error j2:=by rw[←a4.out];simp[dp,b2.out,hc2]
  subst a1;clear a4;go_wp2_with fail
  go_quiet (fail)
  go_wp2
  go_ret2
  exact⟨rfl,c7.next (But.drewN (fun _=>False) _ _) (fun _ _ h=>h),trivial⟩
 rw[hc2]at b1;obtain⟨f8,v1,i0,g6⟩:=b1;have b5:Hid (eF s cs.length 3 [] j= .ok (gs,j2)):=hc2;have e5:=mf hc2;clear hc2;have e3:=ah f6 f3 (fun g hg h=>by have:=aj f6 g hg;omega)
 have h6:dC w2 (w.heap.size+2) w2.heap.size w.heap.size cs gs (.slice none 0 0):=⟨h0,a5,by simpa using e5,_,_,i0,fB e3 (by omega),fB g6 (by omega),fun g hg=>by
  rcases hg with hg|hg
  ·exact aS e3 g hg
  ·exact aS g6 g hg⟩
 have e1:=f8.c1;have e2:=f8.c2;go_wp2_with fail;refine(sN (w.heap.size+1) s j2 w.heap.size _ _ w2 (w.heap.size+2) w2.heap.size cs gs hs e8 (by omega) (by omega) (by omega) f8 h6 (Nat.le_refl _)).mono ?_;rintro en w3 ⟨rfl,g3,j3,h1,l2,l4,a7,a3⟩;have d6:But (fun _=>False) w w3:=c7.next g3 (fun k hk h=>by omega);have k3:=g3.size;clear e1 e2;rcases a3 with⟨rfl,l,v2,e9,j1,f5,g4⟩ | ⟨rfl,e9⟩
 case inr=>
  have e1:=a7.c1;have e2:=a7.c2;have e4:=a7.c4;have a1:R= .error j3:=by rw[←a4.out];simp[dp,b2.out,b5.out,e9]
  subst a1;clear a4;go_wp2_with fail
  go_quiet (fail)
  go_wp2
  go_ret2
  exact⟨rfl,d6.next (But.drewN (fun _=>False) _ _) (fun _ _ h=>h),trivial⟩
 have e6:Hid (eG s cs gs 6 [] j2= .ok (l.map (·.1),j3)):=e9;clear e9;obtain⟨a2,f2,rfl⟩:=aq g4.own;obtain⟨_,_,_,u0,u1,g5,g7,i3,j0⟩:=f5;obtain⟨b0,capb0,rfl⟩:=aq g7;have f5:dC w3 (w.heap.size+2) w2.heap.size w.heap.size cs gs (.slice a2 l.length f2):=⟨h0,a5,by simpa using e5,_,_,g5,g7,i3,j0⟩;have e1:=a7.c1;have e2:=a7.c2;have e4:=a7.c4;have d0:=g5.c0;go_wp2_with fail;refine(il (w.heap.size+1) s j3 false w.heap.size _ _ w3 _ _ _ 3 cs.length 58 rfl rfl rfl hs a5 (by omega) (by decide) a7).mono ?_;rintro en w4 ⟨e7,o,j4,h2,rfl,i6,b3,a3⟩;have e0:But (fun _=>False) w w4:=d6.next e7 (fun k hk h=>by omega)
 have k9:=e7.size;clear e1 e2 e4 d0;rcases a3 with⟨rfl,t,rfl,ht⟩ | ⟨rfl,ht⟩
 case inr=>
  have e1:=b3.c1;have e2:=b3.c2;have e4:=b3.c4;have a1:R= .error j4:=by rw[←a4.out];simp[dp,b2.out,b5.out,e6.out,ht]
  subst a1;clear a4;go_wp2_with fail
  go_quiet (fail)
  go_wp2
  go_ret2
  exact⟨rfl,e0.next (But.drewN (fun _=>False) _ _) (fun _ _ h=>h),trivial⟩
 have f1:Hid (tys s cs.length 58 3 [] j3= .ok (t,j4)):=ht;have i7:=fZ ht;simp only[List.length_nil,Nat.add_zero]at i7;clear ht;have e1:=b3.c1;have e2:=b3.c2;go_wp2_with fail;refine(ov (w.heap.size+1) s j4 w.heap.size _ _ w4 (w.heap.size+2) w2.heap.size cs gs _ l (-1) (-1) t (by omega) (by omega) hs e8 (by omega) (by omega) (by omega) b3 (f5.but e7 (by omega) (fun k h=>by omega)) (g4.but e7 (fun k h=>by omega)) (by omega)).mono ?_;rintro en w5 ⟨rfl,h5,j5,h3,l3,l5,b4,a3⟩;have a6:But (fun _=>False) w w5:=e0.next h5 (fun k hk h=>by omega);clear e1 e2;rcases a3 with⟨rfl,is,vk,l1,f0,h7,f4⟩ | ⟨rfl,f0⟩
 case inr=>
  have e1:=b4.c1;have e2:=b4.c2;have e4:=b4.c4;have a1:R= .error j5:=by rw[←a4.out];simp[dp,b2.out,b5.out,e6.out,f1.out,f0]
  subst a1;clear a4;go_wp2_with fail
  go_quiet (fail)
  go_wp2
  go_ret2
  exact⟨rfl,a6.next (But.drewN (fun _=>False) _ _) (fun _ _ h=>h),trivial⟩
 have g1:Hid (cD s cs gs.length t.length 100 [] j4= .ok (is,j5)):=f0;clear f0;have e1:=b4.c1;have e2:=b4.c2;have e4:=b4.c4
 by_cases hend:(j5:Int)<(s.size:Int)
 ·have a1:R= .error j5:=by rw[←a4.out];simp[dp,b2.out,b5.out,e6.out,f1.out,g1.out];omega
  subst a1;clear a4;go_wp2_with fail
  go_quiet (fail)
  go_wp2
  go_ret2
  exact⟨rfl,a6.next (But.drewN (fun _=>False) _ _) (fun _ _ h=>h),trivial⟩
 ·have a1:R= .ok ⟨cs,gs,l.map (·.1)++ [⟨-1,-1,t,is⟩]⟩:=by rw[←a4.out];simp[dp,b2.out,b5.out,e6.out,f1.out,g1.out];omega
  subst a1;clear a4;obtain⟨_,_,_,x0,x1,i1,i4,i5,_⟩:=h7;go_wp2_with fail
  go_ret2
  refine⟨rfl,a6,?_⟩;exact⟨_,_,_,_,i1,fB i4 (by omega),fB i5 (by omega),fB f4.own (by omega),by simp,fun x hx=>⟨fB (f4.code x hx).1 (by omega),(f4.code x hx).2.1⟩⟩
end
def AZ (w:World) (bi:Nat) (im:Img):Prop:=
 ∃v0 v1 v2 l,ImB w bi v0 v1 v2∧w.ownsRow 0 203 2 v0 im.classes.length (cE im.classes)∧w.ownsRow 0 129 2 v1 im.sigs.length (cy im.sigs)∧
  w.ownsRow 0 52 5 v2 l.length (cK l)∧l.map (·.1)=im.bodies
theorem dk.hds {w:World} {bi:Nat} {im:Img} (h:dk w bi im):AZ w bi im:=by
 obtain⟨v0,v1,v2,l,hI,h0,h1,h2,hl,_⟩:=h;exact⟨v0,v1,v2,l,hI,h0,h1,h2,hl⟩
theorem xh (bi:Nat) (im:Img) (x m:Int) (w:World) (hI:AZ w bi im) (hw:WfC im.classes) (hn:im.classes.length≤4) (hbl:im.bodies.length≤7) (hx0: -1≤x) (hx:x<im.classes.length):
  Calls Tryz.prog 81 #[.pointer (some ⟨bi,0,none⟩),.int .i64 x,.int .i64 m] w fun en w'=>en= .returned (.int .i64 (cq im.classes im.bodies m 5 x))∧w'=w:=by
 obtain⟨R,a6⟩: ∃R,cq im.classes im.bodies m 5 x=R:=⟨_,rfl⟩;rw[a6];have d6:Hid (cq im.classes im.bodies m 5 x=R):=a6;clear a6;obtain⟨v0,v1,v2,l,b1,hC,hS,hB,hl⟩:=hI;obtain⟨cs,gs,bs⟩:=im;simp only at*;subst hl;have e2:l.length≤100:=by simp at hbl;omega
 obtain⟨a0,cap0,rfl⟩:=aq hC;have d0:=b1.c0
 go_in
 go_wp2_with fail
 go_loopg [1,7] 5 (fun mm xs ks wr=> ∃(xv:Int) (kn:Nat),xs= .int .i64 xv∧ks= .int .i64 kn∧kn≤5∧5≤kn+mm∧kn+mm≤5∧wr=w∧ -1≤xv∧xv<cs.length∧Hid (cq cs (l.map (·.1)) m mm xv=R))
 case atStart=>exact⟨x,0,rfl,rfl,by omega,by omega,by omega,rfl,hx0,hx,d6⟩
 case round=>
  obtain⟨xv,kn,rfl,rfl,e9,e0,e1,e4,e6,e5,HF⟩:=hrel;subst e4
  by_cases hxn:0≤xv
  ·cases gk with
   |zero=>
    have a1:R= -1:=by rw[←HF.out];rfl
    subst a1;have b3: ¬(kn:Int)≤4:=by omega
    go_wp2_with fail;go_ret;exact⟨rfl,rfl⟩
   |succ f=>
    have b3:(kn:Int)≤4:=by omega
    go_wp2_with fail;refine(ub 0 bi _ _ _ l xv m _ e2 b1 hB).mono ?_;rintro en wx ⟨rfl,c7⟩;rw[c7];clear c7 wx
    have a3:R=if 0≤eI (l.map (·.1)) xv m then eI (l.map (·.1)) xv m else cq cs (l.map (·.1)) m f (bV cs xv):=by
     rw[←HF.out,cq,if_neg (by omega)]
    have a5:Hid (R=if 0≤eI (l.map (·.1)) xv m then eI (l.map (·.1)) xv m else cq cs (l.map (·.1)) m f (bV cs xv)):=a3;clear a3;obtain⟨oi,b4⟩: ∃oi,eI (l.map (·.1)) xv m=oi:=⟨_,rfl⟩;rw[b4]at a5⊢;clear b4
    by_cases ho:0≤oi
    ·have a1:R=oi:=by rw[a5.out,if_pos ho]
     subst a1;go_wp2_with fail;go_ret;exact⟨rfl,rfl⟩
    ·have HN:Hid (cq cs (l.map (·.1)) m f (bV cs xv)=R):=by show _=_;rw[a5.out,if_neg ho]
     obtain⟨n,b0⟩:=Int.eq_ofNat_of_zero_le hxn;have e3:n<cs.length:=by omega
     have a8:=List.getElem?_eq_getElem e3;obtain⟨g,rfl,e7,e8,a2⟩:=aD hC (by omega);have b2:=a2 _ _ (ka a8);have a4:=f9 hw e5 hxn;have b5:bV cs xv=cs[n].par:=by unfold bV;rw[b0,Int.toNat_natCast,a8];rfl
     rw[b5]at HN a4;have a7:wr.cell? ⟨g,xv.toNat*2,none⟩=some (.int .i64 cs[n].par):=by rw[b0,Int.toNat_natCast];exact b2
     obtain⟨pp,b6⟩: ∃pp,cs[n].par=pp:=⟨_,rfl⟩;rw[b6]at HN a4 a7;clear a2 b2 a8 b5 b6 b0;go_wp2_with fail
     go_roundg f
     case measure=>omega
     case rel=>exact⟨pp,kn+1,rfl,by simp,by omega,by omega,by omega,rfl,a4.1,a4.2,HN⟩
  ·have a1:R= -1:=by
    rw[←HF.out]
    cases gk with
    |zero=>rfl
    |succ f=>rw[cq,if_pos (by omega)]
   subst a1
   by_cases b3:(kn:Int)≤4
   ·go_wp2_with fail;go_ret;exact⟨rfl,rfl⟩
   ·go_wp2_with fail;go_ret;exact⟨rfl,rfl⟩
def gj (w:World) (bi:Nat) (cs:List Cls):Prop:=
 ∃v0 v1 v2,ImB w bi v0 v1 v2∧w.ownsRow 0 203 2 v0 cs.length (cE cs)
theorem dk.cls {w:World} {bi:Nat} {im:Img} (h:dk w bi im):gj w bi im.classes:=by
 obtain⟨v0,v1,v2,l,hI,h0,_⟩:=h;exact⟨v0,v1,v2,hI,h0⟩
theorem gj.but {w w':World} {bi:Nat} {cs:List Cls} (h:gj w bi cs) (hb:But (fun _=>False) w w'):gj w' bi cs:=by
 obtain⟨v0,v1,v2,hI,h0⟩:=h;exact⟨v0,v1,v2,hI.but hb (fun h=>h),ah h0 hb (fun _ _ h=>h)⟩
theorem gj.par {w:World} {bi:Nat} {cs:List Cls} (h:gj w bi cs) (hw:WfC cs) {x:Int} (h0:0≤x) (hx:x<cs.length):
  ∃(g n cap:Nat) (p:Int),w.cell? ⟨bi,0,none⟩=some (.slice (some ⟨g,0,none⟩) n cap)∧x<(n:Int)∧w.cell? ⟨g,x.toNat*2,none⟩=some (.int .i64 p)∧bV cs x=p∧ -1≤p∧p<cs.length:=by
 obtain⟨v0,v1,v2,hI,hO⟩:=h;obtain⟨a0,cap0,rfl⟩:=aq hO;obtain⟨n,rfl⟩:=Int.eq_ofNat_of_zero_le h0;have a5:n<cs.length:=by omega
 have a3:=List.getElem?_eq_getElem a5;obtain⟨g,rfl,a6,a7,a1⟩:=aD hO (by omega);have a4:=f9 hw hx h0;have a2:bV cs (n:Int)=cs[n].par:=by unfold bV;rw[Int.toNat_natCast,a3];rfl
 refine⟨g,cs.length,cap0,cs[n].par,hI.c0,by omega,?_,a2,?_,?_⟩
 ·rw[Int.toNat_natCast];exact a1 _ _ (ka a3)
 ·rw[←a2];exact a4.1
 ·rw[←a2];exact a4.2
theorem uI (bi:Nat) (cs:List Cls) (x y:Int) (w:World) (hI:gj w bi cs) (hw:WfC cs) (hx0: -1≤x) (hx:x<cs.length):
  Calls Tryz.prog 122 #[.pointer (some ⟨bi,0,none⟩),.int .i64 x,.int .i64 y] w fun en w'=>en= .returned (.bool (bq cs 5 x y))∧w'=w:=by
 obtain⟨R,a1⟩: ∃R,bq cs 5 x y=R:=⟨_,rfl⟩;rw[a1];have a4:Hid (bq cs 5 x y=R):=a1;clear a1
 go_in
 go_wp2_with fail
 go_loopg [1,7] 5 (fun mm xs ks wr=> ∃(xv:Int) (kn:Nat),xs= .int .i64 xv∧ks= .int .i64 kn∧kn≤5∧5≤kn+mm∧kn+mm≤5∧wr=w∧ -1≤xv∧xv<cs.length∧Hid (bq cs mm xv y=R))
 case atStart=>exact⟨x,0,rfl,rfl,by omega,by omega,by omega,rfl,hx0,hx,a4⟩
 case round=>
  obtain⟨xv,kn,rfl,rfl,b3,a5,a6,b0,b2,b1,HF⟩:=hrel;subst b0
  by_cases hxn:0≤xv
  ·cases gk with
   |zero=>
    have a0:R=false:=by rw[←HF.out];rfl
    subst a0;have a2: ¬(kn:Int)≤4:=by omega
    go_wp2_with fail;go_ret;exact⟨rfl,rfl⟩
   |succ f=>
    have a2:(kn:Int)≤4:=by omega
    by_cases hxy:xv=y
    ·have a0:R=true:=by rw[←HF.out,bq,if_neg (by omega),if_pos hxy]
     subst a0;have hb:(xv==y)=true:=by simpa using hxy
     clear hxy HF;go_wp2_with fail;go_ret;exact⟨rfl,rfl⟩
    ·have HN:Hid (bq cs f (bV cs xv) y=R):=by show _=_;rw[←HF.out,bq,if_neg (by omega),if_neg hxy]
     have hb:(xv==y)=false:=by simpa using hxy
     obtain⟨g,n,cap,p,d0,hn,hc,a3,a7,a8⟩:=hI.par hw hxn b1;rw[a3]at HN;clear a3 hxy HF;go_wp2_with fail
     go_roundg f
     case measure=>omega
     case rel=>exact⟨p,kn+1,rfl,by simp,by omega,by omega,by omega,rfl,a7,a8,HN⟩
  ·have a0:R=false:=by
    rw[←HF.out]
    cases gk with
    |zero=>rfl
    |succ f=>rw[bq,if_pos (by omega)]
   subst a0
   by_cases a2:(kn:Int)≤4
   ·go_wp2_with fail;go_ret;exact⟨rfl,rfl⟩
   ·go_wp2_with fail;go_ret;exact⟨rfl,rfl⟩
theorem dr (c:UInt8) (w:World):Calls Tryz.prog 82 #[.int .u8 c.toNat] w fun en w'=>en= .returned (.bool (isC c))∧w'=w:=by
 obtain⟨n,hn⟩: ∃n:Nat,c.toNat=n:=⟨_,rfl⟩
 have hb:isC c=(decide (65≤(n:Int))&&decide ((n:Int)≤68)):=by
  unfold isC;rw[hn];rw[Bool.eq_iff_iff];simp;omega
 rw[hn,hb];clear hb hn
 by_cases h:(65:Int)≤(n:Int)
 ·by_cases h2:(n:Int)≤68
  ·go_in
   go_wp2
   go_ret;exact⟨by simp[h,h2],rfl⟩
  ·go_in
   go_wp2
   go_ret;exact⟨by simp[h,h2],rfl⟩
 ·go_in
  go_wp2
  go_ret;exact⟨by simp;omega,rfl⟩
end
end Go.Proofs.YtpfkkmacakjmbaaGreatDoor
