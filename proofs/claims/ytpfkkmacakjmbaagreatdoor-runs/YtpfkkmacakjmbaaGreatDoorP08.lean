import Derived.Test.YtpfkkmacakjmbaaGreatDoorP07
import Derived.Test.YtpfkkmacakjmbaaGreatDoorP02
set_option maxRecDepth 100000
set_option maxHeartbeats 6400000
set_option linter.unusedSimpArgs false
set_option linter.unusedVariables false
namespace Go.Proofs.YtpfkkmacakjmbaaGreatDoor
section
open Go Go.RowKit Sp
theorem ue {bs:List Bod} {x m:Int} {k:Nat} (hk:k<bs.length) (h:bs[k].cls=x∧bs[k].meth=m) (hno: ∀j (hj:j<bs.length),j<k→ ¬(bs[j].cls=x∧bs[j].meth=m)):fe bs x m=k:=by
 have:iK bs x m=some k:=by
  unfold iK;rw[List.findIdx?_eq_some_iff_getElem];refine⟨hk,by simp[h.1,h.2],fun j hj=> ?_⟩;have:=hno j (by omega) hj;simpa using this
 simp[fe,this]
theorem uf {bs:List Bod} {x m:Int} (hno: ∀j (hj:j<bs.length),¬(bs[j].cls=x∧bs[j].meth=m)):fe bs x m= -1:=by
 have:iK bs x m=none:=by
  unfold iK;rw[List.findIdx?_eq_none_iff];intro b hb;obtain⟨j,hj,rfl⟩:=List.getElem_of_mem hb;simpa using hno j hj
 simp[fe,this]
theorem tM (base bi:Nat) (v0 v1 v2:Value) (l:List (Bod×Value×Value)) (x m:Int) (w:World) (hl:l.length≤100) (hI:ImB w bi v0 v1 v2) (hO:w.ownsRow base 52 5 v2 l.length (cV l)):
  Calls Tryz.prog 132 #[.pointer (some ⟨bi,0,none⟩),.int .i64 x,.int .i64 m] w fun en w'=>en= .returned (.int .i64 (fe (l.map (·.1)) x m))∧w'=w:=by
 obtain⟨R,a2⟩: ∃R,fe (l.map (·.1)) x m=R:=⟨_,rfl⟩;rw[a2];have a5:Hid (fe (l.map (·.1)) x m=R):=a2;clear a2;obtain⟨ao,cap,rfl⟩:=au hO;have d2:=hI.c2
 go_in
 go_wp2
 go_loop [7] (fun t=> ∃k:Nat,k≤l.length∧t= .int .i64 k∧Hid (∀j (hj:j<l.length),j<k→ ¬(l[j].1.cls=x∧l[j].1.meth=m))) (fun t=>l.length-(intOf t).toNat)
 case atStart=>exact⟨0,Nat.zero_le _,rfl,fun j hj h=>absurd h (by omega)⟩
 case round=>
  obtain⟨k,hk,rfl,HA⟩:=hrel
  by_cases hlt:k<l.length
  ·have a3:=List.getElem?_eq_getElem hlt;obtain⟨g,rfl,a9,b0,a0⟩:=aG hO (by omega);have a7:=a0 _ _ (fU a3);have a8:=a0 _ _ (fV a3);clear a0;have a6:(k:Int)<(l.length:Int):=by omega
   clear a3
   by_cases h1:l[k].1.cls=x
   ·by_cases h2:l[k].1.meth=m
    ·have a1:R=k:=by
      rw[←a5.out];refine ue (by simpa using hlt) (by simp[h1,h2]) (fun j hj a4=> ?_);have:=HA.out j (by simpa using hj) a4;simpa using this
     subst a1;have b1:(l[k].1.cls==x)=true:=by simpa using h1
     have b2:(l[k].1.meth==m)=true:=by simpa using h2
     clear h1 h2
     go_wp2
     go_ret;exact⟨rfl,rfl⟩
    ·have b1:(l[k].1.cls==x)=true:=by simpa using h1
     have b2:(l[k].1.meth==m)=false:=by simpa using h2
     have HN:Hid (∀j (hj:j<l.length),j<k+1→ ¬(l[j].1.cls=x∧l[j].1.meth=m)):=by
      intro j hj a4;rcases Nat.lt_or_ge j k with h|h
      ·exact HA.out j hj h
      ·have:j=k:=by omega
       subst this;exact fun h=>h2 h.2
     clear h1 h2
     go_wp2
     go_round
     case rel=>exact⟨k+1,by omega,by go_num,HN⟩
     case measure=>simp[intOf];omega
   ·have b1:(l[k].1.cls==x)=false:=by simpa using h1
    have HN:Hid (∀j (hj:j<l.length),j<k+1→ ¬(l[j].1.cls=x∧l[j].1.meth=m)):=by
     intro j hj a4;rcases Nat.lt_or_ge j k with h|h
     ·exact HA.out j hj h
     ·have:j=k:=by omega
      subst this;exact fun h=>h1 h.1
    clear h1
    go_wp2
    go_round
    case rel=>exact⟨k+1,by omega,by go_num,HN⟩
    case measure=>simp[intOf];omega
  ·have a1:R= -1:=by
    rw[←a5.out];refine uf (fun j hj=> ?_);have:=HA.out j (by simpa using hj) (by simp at hj;omega);simpa using this
   subst a1
   go_wp2
   go_ret;exact⟨rfl,rfl⟩
end
section
open Go Go.RowKit Sp
attribute [local go_sem ↓] Go.wp_at_zero Go.wp_at_succ
theorem we:(Tryz.prog.info? 52).map (fun i=>(i.zero,i.size,i.bytes))=some (some (.agg #[.int .i64 0,.int .i64 0,.string ⟨#[]⟩,.slice none 0 0,.slice none 0 0]),5,80):=by kernel_rfl
structure pF (w:World) (top:Nat) (v2:Value) (l:List (Bod×Value×Value)):Prop where
 own:w.ownsRow top 52 5 v2 l.length (cV l)
 code: ∀x∈l,w.ownsRow top 144 4 x.2.1 x.1.code.length (cE x.1.code)∧x.2.2= .slice none 0 0∧(∀g,x.2.1.ownBlock=some g→v2.ownBlock≠some g)
theorem pF.but {F:Nat→Prop} {w w':World} {top:Nat} {v2:Value} {l:List (Bod×Value×Value)} (h:pF w top v2 l) (hb:But F w w') (hF: ∀k,F k→k<top):pF w' top v2 l:=
 ⟨ar h.own hb (fun g hg hf=>by have:=ay h.own g hg;have:=hF g hf;omega),fun x hx=>⟨ar (h.code x hx).1 hb (fun g hg hf=>by have:=ay (h.code x hx).1 g hg;have:=hF g hf;omega),(h.code x hx).2⟩⟩
section
variable (b:Nat) (s:ByteArray) (i:Nat) (bi:Nat) (vc vt:Value) (w:World)
theorem oP (base top:Nat) (cs:List Cls) (gs:List Sig) (v2:Value) (l:List (Bod×Value×Value)) (cl me:Int) (loc:List UInt8) (hll:l.length≤7) (hloc:loc.length≤5) (hs:s.size≤2000) (hbi:b≠bi) (hbb:b<base) (hbib:bi<base) (hbt:base≤top) (hR:RdB w b s i false false bi vc vt) (hH:dY w base top bi cs gs v2) (hBd:pF w top v2 l) (htw:top≤w.heap.size):
  Calls Tryz.prog 80 #[.pointer (some ⟨b,0,none⟩),.agg #[.int .i64 cl,.int .i64 me,.string ⟨loc.toArray⟩,.slice none 0 0,.slice none 0 0]] w fun en w'=>en= .returned (.tuple #[])∧But (fun k=>k=b∨k=bi∨top≤k) w w'∧
   ∃j bad vc' vt',RdB w' b s j bad false bi vc' vt'∧
    ((bad=false∧ ∃is vk v2',cM s cs gs.length loc.length 100 [] i= .ok (is,j)∧dY w' base top bi cs gs v2'∧pF w' top v2' (l++ [(⟨cl,me,loc,is⟩,vk,.slice none 0 0)]))∨(bad=true∧cM s cs gs.length loc.length 100 [] i= .error j)):=by
 obtain⟨i0,i4,j3,j4,j5⟩:=info_parts we;have c3:=hR.c3;have c5:=hR.c5;have c6:=hR.c6;have f5:=hR.fz 5;have f6:=hR.fz 6;have blt:=hR.lt
 go_in
 go_wp2_with fail;have h9:RdB ((w.setCell ⟨b,5,none⟩ (.slice none 0 0)).setCell ⟨b,6,none⟩ (.slice none 0 0)) b s i false false bi (.slice none 0 0) (.slice none 0 0):=(hR.set5 _).set6 _;have h0:But (· =b) w ((w.setCell ⟨b,5,none⟩ (.slice none 0 0)).setCell ⟨b,6,none⟩ (.slice none 0 0)):=(But.setB _ _ _ _).trans (But.setB _ _ _ _);have j1:((w.setCell ⟨b,5,none⟩ (.slice none 0 0)).setCell ⟨b,6,none⟩ (.slice none 0 0)).heap.size=w.heap.size:=by rw[bf,bf]
 generalize ((w.setCell ⟨b,5,none⟩ (.slice none 0 0)).setCell ⟨b,6,none⟩ (.slice none 0 0))=w0 at*;have g0:But (· =b) w (w0.alloc (.cells #[.int .i64 cl,.int .i64 me,.string ⟨loc.toArray⟩,.slice none 0 0,.slice none 0 0] 52)):=h0.trans (But.alloc _ _ _);have g6:bi<base:=hbib;refine(wb b s i false bi _ _ base top cs gs v2 loc.length hloc hs hbi hbb (h9.alloc _) (hH.but g0 (fun h=>hbi h.symm) (fun k h=>by omega))).mono ?_;rintro en w1 ⟨rfl,g1,j,bad,l5,f2,e0⟩
 have b5:w1.heap[w.heap.size]?=some (.cells #[.int .i64 cl,.int .i64 me,.string ⟨loc.toArray⟩,.slice none 0 0,.slice none 0 0] 52):=by
  rw[g1.block _ (by simp;omega) (by omega)];exact aw j1 _
 have b2:But (· =b) w w1:=g0.trans g1;have e2:=f2.c2;clear c3 c5 c6 f5 f6;rcases e0 with⟨rfl,is,a1,b4,i5,a6⟩ | ⟨rfl,a1⟩
 ·have HC:Hid (cM s cs gs.length loc.length 100 [] i= .ok (is,j+1)):=a1;obtain⟨ak,capk,rfl⟩:=au a6;have HD:Hid (pk s j=46):=UInt8.toNat_inj.1 (by rw[b4];rfl);clear a1 b4;go_wp2_with fail;refine(vR b s j false false bi _ _ _ 46 hs f2 (by decide) HD.out).mono ?_;rintro en w2 ⟨rfl,e7,f3⟩
  have a4:w2.heap[w.heap.size]?=some (.cells #[.int .i64 cl,.int .i64 me,.string ⟨loc.toArray⟩,.slice none 0 0,.slice none 0 0] 52):=by
   rw[e7.block _ (ae b5) (by omega)];exact b5
  have f1:But (· =b) w w2:=b2.trans e7
  have g5:w2.ownsRow top 144 4 (.slice ak is.length capk) is.length (cE is):=by
   have:=ar a6 e7 (fun g hg h=>by have:=ay a6 g hg;simp at this;omega);refine⟨this.1,?_⟩;rcases this.2 with h| ⟨g,cp,cur,h1,h2,h3⟩
   ·exact Or.inl h
   ·exact Or.inr ⟨g,cp,cur,h1,by simp at h2;omega,h3⟩
  have a7: ∀g,(Value.slice ak is.length capk).ownBlock=some g→w.heap.size<g:=fun g hg=>by have:=ay a6 g hg;simp at this;omega
  have i6:=aU g5;have e5:=f3.c5;have e6:=f3.c6;have k3:=ce3 a4;have k4:=ce4 a4;have l3:w2.frozen? ⟨w.heap.size,3,none⟩=false:=frozen_of_row w2 _ 3 _ _ a4;have l4:w2.frozen? ⟨w.heap.size,4,none⟩=false:=frozen_of_row w2 _ 4 _ _ a4;have f7:b≠w.heap.size:=by omega
  have g7:w.heap.size≠b:=by omega
  clear e2;go_wp2_with fail;have a3:((w2.setCell ⟨w.heap.size,3,none⟩ (.slice ak is.length capk)).setCell ⟨w.heap.size,4,none⟩ (.slice none 0 0)).heap[w.heap.size]?=some (.cells #[.int .i64 cl,.int .i64 me,.string ⟨loc.toArray⟩,.slice ak is.length capk,.slice none 0 0] 52):=heap_setCell_same _ _ 4 _ _ _ (heap_setCell_same w2 _ 3 _ _ _ a4);have e8:But (· =w.heap.size) w2 ((w2.setCell ⟨w.heap.size,3,none⟩ (.slice ak is.length capk)).setCell ⟨w.heap.size,4,none⟩ (.slice none 0 0)):=(But.setB _ _ _ _).trans (But.setB _ _ _ _);generalize ((w2.setCell ⟨w.heap.size,3,none⟩ (.slice ak is.length capk)).setCell ⟨w.heap.size,4,none⟩ (.slice none 0 0))=W at*
  have f4:RdB W b s (j+1) false false bi (.slice ak is.length capk) (.slice none 0 0):=f3.but e8 f7;have f0:But (· =b) w W:=f1.next e8 (fun k hk h=>by omega);have h4:dY W base top bi cs gs v2:=hH.but f0 (fun h=>hbi h.symm) (fun k h=>by omega);have g2:pF W top v2 l:=hBd.but f0 (fun k h=>by omega);have b3:=ar g5 e8 (fun g hg h=>by have:=a7 g hg;omega);obtain⟨j2,i9,j0,v0,v1,e3,g3,g4,f8⟩:=h4;obtain⟨a2,a0,rfl⟩:=au hBd.own;have a9:=g2.own;have a8:=aU hBd.own;have e4:=f4.c4;have i2:=e3.c2;have iz:=e3.fz 2;have bltW:=f4.lt;have biltW:=e3.lt;have gltW:=ae a3;have k0:=ce0 a3;have k1:=ce1 a3;have k2:=ce2 a3
  have j7:=ce3 a3;have k9:=ce4 a3;have ab:(Value.slice a2 l.length a0).ownBlock≠some b:=fun h=>by have:=ay a9 _ h;omega
  have abi:(Value.slice a2 l.length a0).ownBlock≠some bi:=fun h=>by have:=ay a9 _ h;omega
  have agk:(Value.slice a2 l.length a0).ownBlock≠some w.heap.size:=fun h=>by have:=a8 _ h;omega
  have i1:But (fun k=>(Value.slice a2 l.length a0).ownBlock=some k) W W.drew:=But.drew _ _;refine az (But (fun k=>(Value.slice a2 l.length a0).ownBlock=some k) W) 14 (by kernel_rfl) ?_
  iterate 12 (refine aB (v:=?_) rfl (by kernel_rfl) (fun _ _ _ h=>h) rfl i1 ?_ ?_;rotate_left;(focus (intro wS h;have q0:=((h.cell (p:=⟨b,4,none⟩) bltW ab).trans e4);have q1:=((h.cell (p:=⟨bi,2,none⟩) biltW abi).trans i2);have q2:=((h.cell (p:=⟨w.heap.size,0,none⟩) gltW agk).trans k0);have q3:=((h.cell (p:=⟨w.heap.size,1,none⟩) gltW agk).trans k1);have q4:=((h.cell (p:=⟨w.heap.size,2,none⟩) gltW agk).trans k2);have q5:=((h.cell (p:=⟨w.heap.size,3,none⟩) gltW agk).trans j7);have q6:=((h.cell (p:=⟨w.heap.size,4,none⟩) gltW agk).trans k9);clear h;go_simp;try rfl));dsimp only[Act.put];try simp only[aR])
  refine ag rfl (by kernel_rfl) ?_;intro KS hKS;go_simp;refine hKS.out _ _ (fun _=>(But.alloc _ _ _).trans (But.drew _ _)) ?_;clear hKS KS;refine ag rfl (by kernel_rfl) ?_;intro KS hKS
  refine step_append_lies _ (by rfl) _ _ _ (by rfl) top 52 i0 _ 5 80 Tryz.underlying42 i4 j3 j4 j5 rfl (by omega) _ l.length (cV l) (by rfl) ((a9.alloc _).drew)
     ⟨W.heap.size,0,none⟩ 1 1 [.int .i64 cl,.int .i64 me,.string ⟨loc.toArray⟩,.slice ak is.length capk,.slice none 0 0] (by rfl) (by rfl) (World.news_of_block (cs:=#[.int .i64 cl,.int .i64 me,.string ⟨loc.toArray⟩,.slice ak is.length capk,.slice none 0 0]) (t:=52) (fr:=(0,0)) (heap_alloc_new W _)) (by simp[Value.oneCell'])
     (by omega) (by unfold maxLen;omega) (by omega) (by simp;omega) (W.heap.size+1) (by simp) ?_
  intro gg cap3 w3 a5 b9 i3 i7;have b0:But (fun k=>(Value.slice a2 l.length a0).ownBlock=some k) W w3:=((But.alloc _ _ _).trans (But.drew _ _)).trans (aQ b9);refine hKS.out _ _ (fun _=>b0) ?_;clear hKS KS;have y0:=(b0.cell (p:=⟨bi,2,none⟩) biltW abi).trans i2;have y1:=(b0.frozen (p:=⟨bi,2,none⟩) biltW abi).trans iz;refine ag rfl (by kernel_rfl) ?_;intro KS hKS;go_simp;refine hKS.out _ _ nofun ?_;clear hKS KS;refine ag rfl (by kernel_rfl) ?_;intro KS hKS;go_simp;refine hKS.out _ _ nofun ?_;clear hKS KS;refine ag rfl (by kernel_rfl) ?_;intro KS hKS;go_simp;refine hKS.out _ _ nofun ?_;clear hKS KS
  refine aD rfl (by kernel_rfl) ?_;have l0:=ay a5 gg rfl;have h8:RdB (w3.setCell ⟨bi,2,none⟩ (.slice (some ⟨gg,0,none⟩) (l.length+1) cap3)) b s (j+1) false false bi (.slice ak is.length capk) (.slice none 0 0):=(f4.but b0 ab).but (But.setB _ _ _ _) hbi;have h6:ImB (w3.setCell ⟨bi,2,none⟩ (.slice (some ⟨gg,0,none⟩) (l.length+1) cap3)) bi v0 v1 (.slice (some ⟨gg,0,none⟩) (l.length+1) cap3):=(e3.but b0 abi).set2 _;have b1:But (fun k=>k=bi∨(Value.slice a2 l.length a0).ownBlock=some k) W (w3.setCell ⟨bi,2,none⟩ (.slice (some ⟨gg,0,none⟩) (l.length+1) cap3)):=(b0.mono (fun _ _ h=>Or.inr h)).next (But.setB _ _ _ _) (fun _ _ h=>Or.inl h)
  have h7:=ar a5 (But.setB w3 bi 2 (.slice (some ⟨gg,0,none⟩) (l.length+1) cap3)) (fun g hg h=>by have:=ay a5 g hg;omega);generalize (w3.setCell ⟨bi,2,none⟩ (.slice (some ⟨gg,0,none⟩) (l.length+1) cap3))=w4 at*
  have e1: ∀g,g<W.heap.size→(Value.slice a2 l.length a0).ownBlock≠some g→gg≠g:=fun g hg hn h=>by
   rcases i3 with h'|h'
   ·exact hn (by rw[←h];exact h')
   ·omega
  go_wp2_with fail;go_end0;refine⟨rfl,(f0.mono (fun _ _ h=>Or.inl h)).next b1 (fun k hk h=> ?_),j+1,false,_,_,h8,Or.inl ⟨rfl,is,.slice ak is.length capk,.slice (some ⟨gg,0,none⟩) (l.length+1) cap3,HC.out,⟨j2,i9,j0,v0,v1,h6,?_,?_,f8⟩,⟨?_,?_⟩⟩⟩
  ·rcases h with h|h
   ·exact Or.inr (Or.inl h)
   ·exact Or.inr (Or.inr (ay a9 _ h))
  ·exact ar g3 b1 (fun g hg h=>by
    have h1:=ay g3 g hg;have h2:=f8 g (Or.inl hg);rcases h with h|h
    ·omega
    ·have:=ay a9 _ h;omega)
  ·exact ar g4 b1 (fun g hg h=>by
    have h1:=ay g4 g hg;have h2:=f8 g (Or.inr hg);rcases h with h|h
    ·omega
    ·have:=ay a9 _ h;omega)
  ·rw[oh,List.length_append];exact h7
  ·intro x hx;rcases List.mem_append.1 hx with hx|hx
   ·obtain⟨h1,h2,h3⟩:=g2.code x hx;refine⟨ar h1 b1 (fun g hg h=> ?_),h2,fun g hg h=> ?_⟩
    ·have:=ay h1 g hg;rcases h with h|h
     ·omega
     ·exact h3 g hg h
    ·have h5:gg=g:=by simpa[Value.ownBlock]using h
     exact e1 g (aU h1 g hg) (h3 g hg) h5
   ·simp at hx;subst hx;refine⟨ar b3 b1 (fun g hg h=> ?_),rfl,fun g hg h=> ?_⟩
    ·have:=a7 g hg;rcases h with h|h
     ·omega
     ·have:=a8 _ h;omega
    ·have h5:gg=g:=by simpa[Value.ownBlock]using h
     refine e1 g (aU b3 g hg) (fun h=> ?_) h5;have:=a8 _ h;have:=a7 g hg;omega
 ·go_wp2_with fail;exact eo Tryz.results80 rfl ⟨rfl,b2.mono (fun _ _ h=>Or.inl h),j,true,_,_,f2,Or.inr ⟨rfl,a1⟩⟩
end
end
section
open Go Go.RowKit Sp
theorem wg (a d:Int) (c e:UInt8) (ha:a=c.toNat) (hd:d=e.toNat) (w:World):(convert 112 9 (.slice (some ⟨w.heap.size,0,none⟩) 2 2)).run Tryz.prog (w.alloc (.cells #[.int .u8 a,.int .u8 d] 5))= .ok (.string ⟨#[c,e]⟩) (w.alloc (.cells #[.int .u8 a,.int .u8 d] 5)):=by
 subst ha hd;exact Aj c e w
theorem xZ {s:ByteArray} {n i d j:Nat} (h:dM s n i= .ok (d,j)):j=i+1∧d<n∧i<s.size:=by
 unfold dM at h
 split at h
 ·rename_i hd
  cases h
  have h1:=jS.1 hd;exact⟨rfl,by omega,gG (by omega)⟩
 ·cases h
theorem qS (bs:List Bod) (x m:Int):(iK bs x m).isSome=decide (0≤fe bs x m):=by
 unfold fe
 cases iK bs x m with
 |none=>rfl
 |some k=>simp
def ya (R:Except Nat (List Bod×Nat)) (b:Nat) (s:ByteArray) (bi base top:Nat) (cs:List Cls) (gs:List Sig) (w':World):Prop:=
 ∃j bad vc' vt',RdB w' b s j bad false bi vc' vt'∧
  ((bad=false∧ ∃l v2,R= .ok (l.map (·.1),j)∧l.length≤6∧dY w' base top bi cs gs v2∧pF w' top v2 l)∨(bad=true∧R= .error j))
section
variable (b:Nat) (s:ByteArray) (i:Nat) (bi:Nat) (vc vt:Value) (w:World)
theorem sI (base top:Nat) (cs:List Cls) (gs:List Sig) (hs:s.size≤2000) (hbi:b≠bi) (hbb:b<base) (hbib:bi<base) (hbt:base≤top) (hR:RdB w b s i false false bi vc vt) (hH:dY w base top bi cs gs (.slice none 0 0)) (htw:top≤w.heap.size):
  Calls Tryz.prog 78 #[.pointer (some ⟨b,0,none⟩)] w fun en w'=>en= .returned (.tuple #[])∧But (fun k=>k=b∨k=bi∨top≤k) w w'∧
   ya (eO s cs gs 6 [] i) b s bi base top cs gs w':=by
 obtain⟨R,h4⟩: ∃R,eO s cs gs 6 [] i=R:=⟨_,rfl⟩;rw[h4];have j3:Hid (eO s cs gs 6 [] i=R):=h4;clear h4;have h7:=hH.nc;have n0:=hH.ns
 go_in
 go_wp2_with (go_at_call 127;refine(bK b s i false false bi vc vt _ hs hR).mono ?_;rintro en w' ⟨rfl,nn,rfl⟩)
 go_loopg [2] 7 (fun m c wr=> ∃(i':Nat) (bad':Bool) (vc vt:Value),c= .int .u8 (pk s i').toNat∧But (fun k=>k=b∨k=bi∨top≤k) w wr∧RdB wr b s i' bad' false bi vc vt∧
  ((bad'=false∧ ∃f l v2,m=f+1∧f+List.length l=6∧eO s cs gs f (l.map (·.1)) i'=R∧dY wr base top bi cs gs v2∧pF wr top v2 l)∨(bad'=true∧m=0∧R= .error i')))
 case atStart=>exact⟨i,false,_,_,rfl,But.drewN _ _ _,hR.drewN _,Or.inl ⟨rfl,6,[],_,rfl,rfl,j3.out,hH.but (But.drewN (fun _=>False) _ _) (fun h=>h) (fun k h=>h.elim),⟨cC _ _ _ _,fun x hx=>by cases hx⟩⟩⟩
 case round=>
  obtain⟨i',bad',vc,vt,rfl,hB,a5,f4⟩:=hrel;have c1:=a5.c1;have c2:=a5.c2;have c4:=a5.c4;have f1:=a5.fz 1;have f2:=a5.fz 2;rcases f4 with⟨rfl,f,l,v2,rfl,l3,i6,f6,f3⟩ | ⟨rfl,rfl,rfl⟩
  ·have HT:Hid (eO s cs gs f (l.map (·.1)) i'=R):=i6;have l4:f+l.length≤6:=by omega
   have l5:6≤f+l.length:=by omega
   have blt:=a5.lt;clear i6 l3;obtain⟨a2,e6,rfl⟩:=au f3.own;obtain⟨n7,_,_,v0,v1,e3,i1,f8,n5⟩:=f6;obtain⟨a0,cap0,rfl⟩:=au i1;obtain⟨a1,cap1,rfl⟩:=au f8;have d0:=e3.c0;have d1:=e3.c1;have d2:=e3.c2;have bilt:=e3.lt;have f6:dY wr base top bi cs gs (.slice a2 l.length e6):=⟨n7,h7,n0,_,_,e3,i1,f8,n5⟩
   by_cases hpe:(pk s i').toNat=59
   · --the end
    have hi:i'<s.size:=gG (by omega);have m5:(((pk s i').toNat:Int)!=59)=false:=by rw[bne_eq_false_iff_eq];omega
    have a4:R= .ok (l.map (·.1),i'+1):=by rw[←HT.out];cases f<;>simp[eO,hpe]
    subst a4;clear HT hpe;go_wp2_with fail;go_end0;have g7:But (· =b) wr (wr.setCell ⟨b,1,none⟩ (.int .i64 ((i':Int)+1))):=But.setB _ _ _ _;exact⟨rfl,hB.next g7 (fun _ _ h=>Or.inl h),i'+1,false,_,_,a5.inc,Or.inl ⟨rfl,l,_,rfl,by omega,f6.but g7 (fun h=>hbi h.symm) (fun k h=>by omega),f3.but g7 (fun k h=>by omega)⟩⟩
   ·have m5:(((pk s i').toNat:Int)!=59)=true:=by rw[bne_iff_ne];omega
    have e0:Hid (¬(pk s i').toNat=59):=hpe;clear hpe
    cases f with
    |zero=>
     have a4:R= .error i':=by rw[←HT.out];simp[eO,e0.out]
     subst a4;have h6:(6:Int)≤(l.length:Int):=by omega
     clear HT;go_wp2_with fail;exact eo Tryz.results78 rfl ⟨rfl,hB.next (But.setB _ _ _ _) (fun _ _ h=>Or.inl h),i',true,_,_,a5.set2 true,Or.inr ⟨rfl,rfl⟩⟩
    |succ f=>
     have h6: ¬(6:Int)≤(l.length:Int):=by omega
     go_wp2_with fail;refine(fi b s i' false bi vc vt _ _ cs.length rfl h7 hs a5).mono ?_;rintro en w1 ⟨g6,xv,j,bad,rfl,g0,a3⟩;have h0:But (fun k=>k=b∨k=bi∨top≤k) w w1:=hB.next g6 (fun _ _ h=>Or.inl h);have e2:=g0.c2;have e4:=g0.c4;have h1:=e3.but g6 (fun h=>hbi h.symm);clear c1 c2 c4 f1 f2 d0 d1 d2;have d0:=h1.c0;have d1:=h1.c1;rcases a3 with⟨rfl,x,rfl,o3,hx⟩ | ⟨rfl,hx⟩
     case inr=>
      have a4:R= .error j:=by rw[←HT.out];simp[eO,e0.out,hx]
      subst a4;clear HT hx;go_wp2_with fail;exact eo Tryz.results78 rfl ⟨rfl,h0,j,true,_,_,g0,Or.inr ⟨rfl,rfl⟩⟩
     have HX:Hid (el s cs.length i'= .ok (x,j)):=hx;clear hx;go_wp2_with fail;refine(cX b s j false bi vc vt _ _ gs.length rfl hs g0).mono ?_;rintro en w2 ⟨h9,mv,p,bad,rfl,a6,a3⟩;have b2:But (· =b) wr w2:=g6.trans h9;have e7:But (fun k=>k=b∨k=bi∨top≤k) w w2:=hB.next b2 (fun _ _ h=>Or.inl h);have f7:=h1.but h9 (fun h=>hbi h.symm);clear e2 e4 d0 d1;have e1:=a6.c1;have e2:=a6.c2;have e4:=a6.c4;have g1:=a6.fz 1;have g2:=a6.fz 2;have d0:=f7.c0;have d1:=f7.c1;rcases a3 with⟨rfl,m,rfl,m2,hm⟩ | ⟨rfl,hm⟩
     case inr=>
      have a4:R= .error p:=by rw[←HT.out];simp[eO,e0.out,HX.out,hm]
      subst a4;clear HT hm;go_wp2_with fail;exact eo Tryz.results78 rfl ⟨rfl,e7,p,true,_,_,a6,Or.inr ⟨rfl,rfl⟩⟩
     have HM:Hid (dM s gs.length j= .ok (m,p)):=hm;obtain⟨i4,m4,n9⟩:=xZ hm;clear hm;have k9:w2.ownsRow top 52 5 (.slice a2 l.length e6) l.length (cV l):=ar f3.own b2 (fun g hg h=>by have:=ay f3.own g hg;omega);go_wp2_with fail;refine(tM top bi _ _ _ l (x:Int) (m:Int) _ (by omega) f7 k9).mono ?_;rintro en wx ⟨rfl,i7⟩;rw[i7];clear i7 wx;have e5:=qS (l.map (·.1)) (x:Int) (m:Int);obtain⟨oi,f5⟩: ∃oi,fe (l.map (·.1)) (x:Int) (m:Int)=oi:=⟨_,rfl⟩;rw[f5]at e5⊢;clear f5
     by_cases f5:0≤oi
     · --there is one already
      have a9:(iK (l.map (·.1)) (x:Int) (m:Int)).isSome=true:=by rw[e5];simpa using f5
      have a4:R= .error j:=by rw[←HT.out];simp only[eO,if_neg e0.out,HX.out,HM.out,if_pos a9]
      subst a4;have i5:(p:Int)-1=(j:Int):=by omega
      have j2:Hid ((p:Int)-1=(j:Int)):=i5;have o0:(1:Int)≤(p:Int):=by omega
      have o1:(p:Int)≤3000:=by omega
      clear HT a9 e5 i5 i4;go_wp2_with fail;refine eo Tryz.results78 rfl ⟨rfl,?_,j,true,vc,vt,?_,Or.inr ⟨rfl,rfl⟩⟩
      ·exact(e7.next (But.setB _ _ _ _) (fun _ _ h=>Or.inl h)).next (But.setB _ _ _ _) (fun _ _ h=>Or.inl h)
      ·rw[j2.out];exact(a6.set1 j).set2 true
     ·have a8: ¬(iK (l.map (·.1)) (x:Int) (m:Int)).isSome=true:=by rw[e5];simpa using f5
      have h8:Hid (¬(iK (l.map (·.1)) (x:Int) (m:Int)).isSome=true):=a8;clear a8 e5 i4;go_wp2_with fail;refine(iW b s p false bi vc vt _ _ _ _ 3 cs.length 58 rfl rfl rfl hs h7 (by omega) (by decide) a6).mono ?_;rintro en w3 ⟨i0,o,q,bad,rfl,n1,g3,a3⟩;have b3:But (· =b) wr w3:=b2.trans i0;have e8:But (fun k=>k=b∨k=bi∨top≤k) w w3:=hB.next b3 (fun _ _ h=>Or.inl h);have k3:=f7.but i0 (fun h=>hbi h.symm);clear e1 e2 e4 g1 g2 d0 d1;have e2:=g3.c2;have e4:=g3.c4;have d1:=k3.c1;rcases a3 with⟨rfl,t,rfl,ht⟩ | ⟨rfl,ht⟩
      case inr=>
       have a4:R= .error q:=by rw[←HT.out];simp only[eO,if_neg e0.out,HX.out,HM.out,if_neg h8.out,ht]
       subst a4;clear HT ht;go_wp2_with fail;exact eo Tryz.results78 rfl ⟨rfl,e8,q,true,_,_,g3,Or.inr ⟨rfl,rfl⟩⟩
      have j5:Hid (tys s cs.length 58 3 [] p= .ok (t,q)):=ht;have n4:=jJ ht;simp only[List.length_nil,Nat.add_zero]at n4;clear ht;have h5:=List.getElem?_eq_getElem m4;have h2:=ar f8 b3 (fun g hg h=>by have:=ay f8 g hg;omega);obtain⟨gS,rfl,m0,m1,a7⟩:=aG h2 (by omega);have i2:=a7 _ _ (kF h5);clear a7;have m3:(m:Int)<(gs.length:Int):=by omega
      have o2:(x:Int)<4:=by omega
      obtain⟨arg,b5⟩: ∃arg:UInt8,gs[m].arg=arg:=⟨_,rfl⟩
      have g5:Hid (kB gs m=arg):=by
       show kB gs m=arg
       unfold kB;rw[h5];exact b5
      rw[b5]at i2;clear b5 h5;obtain⟨cx,b9⟩: ∃cx:UInt8,UInt8.ofNat (65+x)=cx:=⟨_,rfl⟩
      have i3:(65+(x:Int))=(cx.toNat:Int):=by
       rw[←b9,UInt8.toNat_ofNat'];omega
      have j0:Hid ((65+(x:Int))=(cx.toNat:Int)):=i3;have i9:Hid (UInt8.ofNat (65+x)=cx):=b9;have l0:=wg (65+(x:Int)) (arg.toNat:Int) cx arg j0.out rfl;have n2:(⟨#[cx,arg]⟩:ByteArray).size+(⟨t.toArray⟩:ByteArray).size≤1000:=by show 2+t.toArray.size≤1000;simp;omega
      clear i3 b9;go_wp2_with fail;rw[show(⟨#[cx,arg]⟩:ByteArray)++⟨t.toArray⟩=⟨(cx::arg::t).toArray⟩from cP [cx,arg] t];have b4:But (· =b) wr (w3.alloc (.cells #[.int .u8 (65+(x:Int)),.int .u8 arg.toNat] 5)):=b3.trans (But.alloc _ _ _);have n8:=hB.size;have n6:=e8.size;refine(oP b s q bi _ _ _ base top cs gs _ l (x:Int) (m:Int) (cx::arg::t) (by omega) (by simp;omega) hs hbi hbb hbib hbt (g3.alloc _) (f6.but b4 (fun h=>hbi h.symm) (fun k h=>by omega)) (f3.but b4 (fun k h=>by omega)) (by simp;omega)).mono ?_;rintro en w4 ⟨rfl,j7,j4,b1,o4,o5,h3,a3⟩;have j1:Hid ((b1=false∧ ∃is vk g4,cM s cs gs.length (cx::arg::t).length 100 [] q= .ok (is,j4)∧dY w4 base top bi cs gs g4∧pF w4 top g4 (l++ [(⟨x,m,cx::arg::t,is⟩,vk,.slice none 0 0)]))∨(b1=true∧cM s cs gs.length (cx::arg::t).length 100 [] q= .error j4)):=a3
      have f0:But (fun k=>k=b∨k=bi∨top≤k) w w4:=(hB.next b4 (fun _ _ h=>Or.inl h)).trans j7;clear a3 e2 e4 d1 i2 l0;go_wp2_with (go_at_call 127;refine(bK b s j4 b1 false bi _ _ _ hs h3).mono ?_;rintro en w' ⟨rfl,n3,rfl⟩)
      have b0: ∀r,cM s cs gs.length (cx::arg::t).length 100 [] q=r→R=match r with
        | .error e=> .error e
        | .ok (is,z)=>eO s cs gs f (l.map (·.1)++ [⟨x,m,cx::arg::t,is⟩]) z:=by
       intro r hr;rw[←HT.out];simp only[eO,if_neg e0.out,HX.out,HM.out,if_neg h8.out,j5.out,g5.out,i9.out];rw[show(cx::arg::t).length=t.length+2 from rfl]at hr;rw[hr];rcases r with e| ⟨is,z⟩<;>rfl
      rcases j1.out with⟨rfl,is,vk,g4,hc,k1,k0⟩ | ⟨rfl,hc⟩
      ·go_roundg (f+1)
       case measure=>omega
       case rel=>
        refine⟨j4,false,_,_,rfl,f0.next (But.drewN (fun _=>False) _ _) (fun _ _ h=>h.elim),h3.drewN _,Or.inl ⟨rfl,f,_,g4,rfl,by simp;omega,?_,k1.but (But.drewN (fun _=>False) _ _) (fun h=>h) (fun k h=>h.elim),k0.but (But.drewN (fun _=>False) _ _) (fun k h=>h.elim)⟩⟩;rw[List.map_append];exact(b0 _ hc).symm
      ·go_roundg 0
       case measure=>omega
       case rel=>exact⟨j4,true,_,_,rfl,f0.next (But.drewN (fun _=>False) _ _) (fun _ _ h=>h.elim),h3.drewN _,Or.inr ⟨rfl,rfl,b0 _ hc⟩⟩
  ·go_wp2_with fail;go_end0;exact⟨rfl,hB,i',true,_,_,a5,Or.inr ⟨rfl,rfl⟩⟩
end
theorem gC {w:World} {base base' e size n:Nat} {v:Value} {xs:List Value} (h:w.ownsRow base e size v n xs) (hb:base'≤base):w.ownsRow base' e size v n xs:=by
 refine⟨h.1,?_⟩;rcases h.2 with h2| ⟨g,cap,cur,h1,h2,h3⟩
 ·exact Or.inl h2
 ·exact Or.inr ⟨g,cap,cur,h1,by omega,h3⟩
def bT (w:World) (bi:Nat) (im:Img):Prop:=
 ∃v0 v1 v2 l,ImB w bi v0 v1 v2∧w.ownsRow 0 203 2 v0 im.classes.length (cN im.classes)∧w.ownsRow 0 129 2 v1 im.sigs.length (cD im.sigs)∧
  w.ownsRow 0 52 5 v2 l.length (cV l)∧l.map (·.1)=im.bodies∧
  ∀x∈l,w.ownsRow 0 144 4 x.2.1 x.1.code.length (cE x.1.code)∧x.2.2= .slice none 0 0
theorem bT.but {w w':World} {bi:Nat} {im:Img} (h:bT w bi im) (hb:But (fun _=>False) w w'):bT w' bi im:=by
 obtain⟨v0,v1,v2,l,hI,h0,h1,h2,hl,hc⟩:=h;exact⟨v0,v1,v2,l,hI.but hb (fun h=>h),ar h0 hb (fun _ _ h=>h),ar h1 hb (fun _ _ h=>h),ar h2 hb (fun _ _ h=>h),hl,fun x hx=>⟨ar (hc x hx).1 hb (fun _ _ h=>h),(hc x hx).2⟩⟩
def wh (R:Except Nat Img):Int:=match R with
 | .ok _=> -1
 | .error j=>j
def wi (R:Except Nat Img) (bi:Nat) (w':World):Prop:=match R with
 | .ok im=>bT w' bi im
 | .error _=>True
section
variable (s:ByteArray) (w:World)
theorem wj (hs:s.size≤2000):
  Calls Tryz.prog 52 #[.string s,.bool false] w fun en w'=>en= .returned (.tuple #[.pointer (some ⟨w.heap.size,0,none⟩),.int .i64 (wh (dC s))])∧But (fun _=>False) w w'∧wi (dC s) w.heap.size w':=by
 obtain⟨R,g2⟩: ∃R,dC s=R:=⟨_,rfl⟩;rw[g2];have a4:Hid (dC s=R):=g2;clear g2
 go_in
 go_wp2_with fail;have i4:RdB ((w.alloc (.cells #[.slice none 0 0,.slice none 0 0,.slice none 0 0] 44)).alloc (.cells #[.string s,.int .i64 0,.bool false,.bool false,.pointer (some ⟨w.heap.size,0,none⟩),.slice none 0 0,.slice none 0 0] 140)) (w.heap.size+1) s 0 false false w.heap.size (.slice none 0 0) (.slice none 0 0):=aw (by simp) _;have i0:ImB ((w.alloc (.cells #[.slice none 0 0,.slice none 0 0,.slice none 0 0] 44)).alloc (.cells #[.string s,.int .i64 0,.bool false,.bool false,.pointer (some ⟨w.heap.size,0,none⟩),.slice none 0 0,.slice none 0 0] 140)) w.heap.size (.slice none 0 0) (.slice none 0 0) (.slice none 0 0):=ImB.but (w:=w.alloc (.cells #[.slice none 0 0,.slice none 0 0,.slice none 0 0] 44)) (heap_alloc_new w _) (But.alloc (fun _=>False) _ _) (fun h=>h)
 have h6:But (fun _=>False) w ((w.alloc (.cells #[.slice none 0 0,.slice none 0 0,.slice none 0 0] 44)).alloc (.cells #[.string s,.int .i64 0,.bool false,.bool false,.pointer (some ⟨w.heap.size,0,none⟩),.slice none 0 0,.slice none 0 0] 140)):=(But.alloc _ _ _).trans (But.alloc _ _ _);have l0:((w.alloc (.cells #[.slice none 0 0,.slice none 0 0,.slice none 0 0] 44)).alloc (.cells #[.string s,.int .i64 0,.bool false,.bool false,.pointer (some ⟨w.heap.size,0,none⟩),.slice none 0 0,.slice none 0 0] 140)).heap.size=w.heap.size+2:=by simp
 generalize ((w.alloc (.cells #[.slice none 0 0,.slice none 0 0,.slice none 0 0] 44)).alloc (.cells #[.string s,.int .i64 0,.bool false,.bool false,.pointer (some ⟨w.heap.size,0,none⟩),.slice none 0 0,.slice none 0 0] 140))=w0 at*;have f0:w.heap.size+1≠w.heap.size:=by omega
 refine(qR (w.heap.size+1) s 0 false w.heap.size _ _ w0 hs f0 i4 i0).mono ?_;rintro en w1 ⟨rfl,g4,a8⟩;have b5:But (fun _=>False) w w1:=h6.next g4 (fun k hk h=>by omega);have k0:=g4.size;rcases hc1:dW s 4 [] 0 with j| ⟨cs,j⟩
 ·rw[hc1]at a8;simp only at a8;have e1:=a8.c1;have e2:=a8.c2;have e4:=a8.c4;have a1:R= .error j:=by rw[←a4.out];simp[dC,hc1]
  subst a1;clear a4;go_wp2_with fail
  go_quiet (fail)
  go_wp2
  go_ret2
  exact⟨rfl,b5.next (But.drewN (fun _=>False) _ _) (fun _ _ h=>h),trivial⟩
 rw[hc1]at a8;obtain⟨g0,v0,i1,f8⟩:=a8;have b1:Hid (dW s 4 [] 0= .ok (cs,j)):=hc1;obtain⟨h2,a5⟩:=tC hc1;clear hc1;obtain⟨a0,cap0,rfl⟩:=au f8;have e1:=g0.c1;have e2:=g0.c2;go_wp2_with fail;refine(vY (w.heap.size+1) s j false w.heap.size _ _ w1 a0 cs.length cap0 a5 hs f0 g0 i1).mono ?_;rintro en w2 ⟨rfl,f5,a9⟩;have b9:But (fun _=>False) w w2:=b5.next f5 (fun k hk h=>by omega);have k1:=f5.size;clear e1 e2;rcases hc2:fB s cs.length 3 [] j with j2| ⟨gs,j2⟩
 ·rw[hc2]at a9;simp only at a9;have e1:=a9.c1;have e2:=a9.c2;have e4:=a9.c4;have a1:R= .error j2:=by rw[←a4.out];simp[dC,b1.out,hc2]
  subst a1;clear a4;go_wp2_with fail
  go_quiet (fail)
  go_wp2
  go_ret2
  exact⟨rfl,b9.next (But.drewN (fun _=>False) _ _) (fun _ _ h=>h),trivial⟩
 rw[hc2]at a9;obtain⟨g1,v1,i2,h0⟩:=a9;have b4:Hid (fB s cs.length 3 [] j= .ok (gs,j2)):=hc2;have e6:=qq hc2;clear hc2;have e5:=ar f8 f5 (fun g hg h=>by have:=ay f8 g hg;omega)
 have h8:dY w2 (w.heap.size+2) w2.heap.size w.heap.size cs gs (.slice none 0 0):=⟨h2,a5,by simpa using e6,_,_,i2,gC e5 (by omega),gC h0 (by omega),fun g hg=>by
  rcases hg with hg|hg
  ·exact aU e5 g hg
  ·exact aU h0 g hg⟩
 have e1:=g1.c1;have e2:=g1.c2;go_wp2_with fail;refine(sI (w.heap.size+1) s j2 w.heap.size _ _ w2 (w.heap.size+2) w2.heap.size cs gs hs f0 (by omega) (by omega) (by omega) g1 h8 (Nat.le_refl _)).mono ?_;rintro en w3 ⟨rfl,g5,j3,h3,l4,m0,a7,a3⟩;have e0:But (fun _=>False) w w3:=b9.next g5 (fun k hk h=>by omega);have k3:=g5.size;clear e1 e2;rcases a3 with⟨rfl,l,v2,f1,j7,f7,g6⟩ | ⟨rfl,f1⟩
 case inr=>
  have e1:=a7.c1;have e2:=a7.c2;have e4:=a7.c4;have a1:R= .error j3:=by rw[←a4.out];simp[dC,b1.out,b4.out,f1]
  subst a1;clear a4;go_wp2_with fail
  go_quiet (fail)
  go_wp2
  go_ret2
  exact⟨rfl,e0.next (But.drewN (fun _=>False) _ _) (fun _ _ h=>h),trivial⟩
 have e7:Hid (eO s cs gs 6 [] j2= .ok (l.map (·.1),j3)):=f1;clear f1;obtain⟨a2,f4,rfl⟩:=au g6.own;obtain⟨_,_,_,u0,u1,g7,h1,i5,j1⟩:=f7;obtain⟨b0,capb0,rfl⟩:=au h1;have f7:dY w3 (w.heap.size+2) w2.heap.size w.heap.size cs gs (.slice a2 l.length f4):=⟨h2,a5,by simpa using e6,_,_,g7,h1,i5,j1⟩;have e1:=a7.c1;have e2:=a7.c2;have e4:=a7.c4;have d0:=g7.c0;go_wp2_with fail;refine(iW (w.heap.size+1) s j3 false w.heap.size _ _ w3 _ _ _ 3 cs.length 58 rfl rfl rfl hs a5 (by omega) (by decide) a7).mono ?_;rintro en w4 ⟨e8,o,j4,h4,rfl,i9,b2,a3⟩;have e3:But (fun _=>False) w w4:=e0.next e8 (fun k hk h=>by omega)
 have k9:=e8.size;clear e1 e2 e4 d0;rcases a3 with⟨rfl,t,rfl,ht⟩ | ⟨rfl,ht⟩
 case inr=>
  have e1:=b2.c1;have e2:=b2.c2;have e4:=b2.c4;have a1:R= .error j4:=by rw[←a4.out];simp[dC,b1.out,b4.out,e7.out,ht]
  subst a1;clear a4;go_wp2_with fail
  go_quiet (fail)
  go_wp2
  go_ret2
  exact⟨rfl,e3.next (But.drewN (fun _=>False) _ _) (fun _ _ h=>h),trivial⟩
 have f3:Hid (tys s cs.length 58 3 [] j3= .ok (t,j4)):=ht;have j0:=jJ ht;simp only[List.length_nil,Nat.add_zero]at j0;clear ht;have e1:=b2.c1;have e2:=b2.c2;go_wp2_with fail;refine(oP (w.heap.size+1) s j4 w.heap.size _ _ w4 (w.heap.size+2) w2.heap.size cs gs _ l (-1) (-1) t (by omega) (by omega) hs f0 (by omega) (by omega) (by omega) b2 (f7.but e8 (by omega) (fun k h=>by omega)) (g6.but e8 (fun k h=>by omega)) (by omega)).mono ?_;rintro en w5 ⟨rfl,h7,j5,h5,l5,m1,b3,a3⟩;have a6:But (fun _=>False) w w5:=e3.next h7 (fun k hk h=>by omega);clear e1 e2;rcases a3 with⟨rfl,is,vk,l3,f2,h9,f6⟩ | ⟨rfl,f2⟩
 case inr=>
  have e1:=b3.c1;have e2:=b3.c2;have e4:=b3.c4;have a1:R= .error j5:=by rw[←a4.out];simp[dC,b1.out,b4.out,e7.out,f3.out,f2]
  subst a1;clear a4;go_wp2_with fail
  go_quiet (fail)
  go_wp2
  go_ret2
  exact⟨rfl,a6.next (But.drewN (fun _=>False) _ _) (fun _ _ h=>h),trivial⟩
 have g3:Hid (cM s cs gs.length t.length 100 [] j4= .ok (is,j5)):=f2;clear f2;have e1:=b3.c1;have e2:=b3.c2;have e4:=b3.c4
 by_cases hend:(j5:Int)<(s.size:Int)
 ·have a1:R= .error j5:=by rw[←a4.out];simp[dC,b1.out,b4.out,e7.out,f3.out,g3.out];omega
  subst a1;clear a4;go_wp2_with fail
  go_quiet (fail)
  go_wp2
  go_ret2
  exact⟨rfl,a6.next (But.drewN (fun _=>False) _ _) (fun _ _ h=>h),trivial⟩
 ·have a1:R= .ok ⟨cs,gs,l.map (·.1)++ [⟨-1,-1,t,is⟩]⟩:=by rw[←a4.out];simp[dC,b1.out,b4.out,e7.out,f3.out,g3.out];omega
  subst a1;clear a4;obtain⟨_,_,_,x0,x1,i3,i6,i7,_⟩:=h9;go_wp2_with fail
  go_ret2
  refine⟨rfl,a6,?_⟩;exact⟨_,_,_,_,i3,gC i6 (by omega),gC i7 (by omega),gC f6.own (by omega),by simp,fun x hx=>⟨gC (f6.code x hx).1 (by omega),(f6.code x hx).2.1⟩⟩
end
def Ao (w:World) (bi:Nat) (im:Img):Prop:=
 ∃v0 v1 v2 l,ImB w bi v0 v1 v2∧w.ownsRow 0 203 2 v0 im.classes.length (cN im.classes)∧w.ownsRow 0 129 2 v1 im.sigs.length (cD im.sigs)∧
  w.ownsRow 0 52 5 v2 l.length (cV l)∧l.map (·.1)=im.bodies
theorem bT.hds {w:World} {bi:Nat} {im:Img} (h:bT w bi im):Ao w bi im:=by
 obtain⟨v0,v1,v2,l,hI,h0,h1,h2,hl,_⟩:=h;exact⟨v0,v1,v2,l,hI,h0,h1,h2,hl⟩
theorem qT (bi:Nat) (im:Img) (x m:Int) (w:World) (hI:Ao w bi im) (hw:WfC im.classes) (hn:im.classes.length≤4) (hbl:im.bodies.length≤7) (hx0: -1≤x) (hx:x<im.classes.length):
  Calls Tryz.prog 81 #[.pointer (some ⟨bi,0,none⟩),.int .i64 x,.int .i64 m] w fun en w'=>en= .returned (.int .i64 (cd im.classes im.bodies m 5 x))∧w'=w:=by
 obtain⟨R,a6⟩: ∃R,cd im.classes im.bodies m 5 x=R:=⟨_,rfl⟩;rw[a6];have e0:Hid (cd im.classes im.bodies m 5 x=R):=a6;clear a6;obtain⟨v0,v1,v2,l,b0,hC,hS,hB,hl⟩:=hI;obtain⟨cs,gs,bs⟩:=im;simp only at*;subst hl;have e3:l.length≤100:=by simp at hbl;omega
 obtain⟨a0,cap0,rfl⟩:=au hC;have d0:=b0.c0
 go_in
 go_wp2_with fail
 go_loopg [1,7] 5 (fun mm xs ks wr=> ∃(xv:Int) (kn:Nat),xs= .int .i64 xv∧ks= .int .i64 kn∧kn≤5∧5≤kn+mm∧kn+mm≤5∧wr=w∧ -1≤xv∧xv<cs.length∧Hid (cd cs (l.map (·.1)) m mm xv=R))
 case atStart=>exact⟨x,0,rfl,rfl,by omega,by omega,by omega,rfl,hx0,hx,e0⟩
 case round=>
  obtain⟨xv,kn,rfl,rfl,f1,e1,e2,e5,e7,e6,HF⟩:=hrel;subst e5
  by_cases hxn:0≤xv
  ·cases gk with
   |zero=>
    have a1:R= -1:=by rw[←HF.out];rfl
    subst a1;have b2: ¬(kn:Int)≤4:=by omega
    go_wp2_with fail;go_ret;exact⟨rfl,rfl⟩
   |succ f=>
    have b2:(kn:Int)≤4:=by omega
    go_wp2_with fail;refine(tM 0 bi _ _ _ l xv m _ e3 b0 hB).mono ?_;rintro en wx ⟨rfl,b9⟩;rw[b9];clear b9 wx
    have a3:R=if 0≤fe (l.map (·.1)) xv m then fe (l.map (·.1)) xv m else cd cs (l.map (·.1)) m f (bZ cs xv):=by
     rw[←HF.out,cd,if_neg (by omega)]
    have a5:Hid (R=if 0≤fe (l.map (·.1)) xv m then fe (l.map (·.1)) xv m else cd cs (l.map (·.1)) m f (bZ cs xv)):=a3;clear a3;obtain⟨oi,b3⟩: ∃oi,fe (l.map (·.1)) xv m=oi:=⟨_,rfl⟩;rw[b3]at a5⊢;clear b3
    by_cases ho:0≤oi
    ·have a1:R=oi:=by rw[a5.out,if_pos ho]
     subst a1;go_wp2_with fail;go_ret;exact⟨rfl,rfl⟩
    ·have HN:Hid (cd cs (l.map (·.1)) m f (bZ cs xv)=R):=by show _=_;rw[a5.out,if_neg ho]
     obtain⟨n,a9⟩:=Int.eq_ofNat_of_zero_le hxn;have e4:n<cs.length:=by omega
     have a8:=List.getElem?_eq_getElem e4;obtain⟨g,rfl,e8,f0,a2⟩:=aG hC (by omega);have b1:=a2 _ _ (kE a8);have a4:=gY hw e6 hxn;have b4:bZ cs xv=cs[n].par:=by unfold bZ;rw[a9,Int.toNat_natCast,a8];rfl
     rw[b4]at HN a4;have a7:wr.cell? ⟨g,xv.toNat*2,none⟩=some (.int .i64 cs[n].par):=by rw[a9,Int.toNat_natCast];exact b1
     obtain⟨pp,b5⟩: ∃pp,cs[n].par=pp:=⟨_,rfl⟩;rw[b5]at HN a4 a7;clear a2 b1 a8 b4 b5 a9;go_wp2_with fail
     go_roundg f
     case measure=>omega
     case rel=>exact⟨pp,kn+1,rfl,by simp,by omega,by omega,by omega,rfl,a4.1,a4.2,HN⟩
  ·have a1:R= -1:=by
    rw[←HF.out]
    cases gk with
    |zero=>rfl
    |succ f=>rw[cd,if_pos (by omega)]
   subst a1
   by_cases b2:(kn:Int)≤4
   ·go_wp2_with fail;go_ret;exact⟨rfl,rfl⟩
   ·go_wp2_with fail;go_ret;exact⟨rfl,rfl⟩
end
end Go.Proofs.YtpfkkmacakjmbaaGreatDoor
