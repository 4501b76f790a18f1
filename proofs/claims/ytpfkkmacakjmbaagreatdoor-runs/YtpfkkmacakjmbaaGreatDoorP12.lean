import Derived.Test.YtpfkkmacakjmbaaGreatDoorP11
set_option maxRecDepth 100000
set_option maxHeartbeats 6400000
set_option linter.unusedSimpArgs false
set_option linter.unusedVariables false
namespace Go.Proofs.YtpfkkmacakjmbaaGreatDoor
section
open Go Go.RowKit Sp
attribute [local go_sem ↓] Go.wp_at_zero Go.wp_at_succ
def fI (im:Img):Nat→List Bod→Except Nat (List (List St))
 |_,[]=> .ok []
 |i,b::bs=>
  match cG im b with
  |none=> .error i
  |some t=>
   match fI im (i+1) bs with
   | .error e=> .error e
   | .ok ts=> .ok (t::ts)
theorem oU {im:Img}: ∀{bs:List Bod} {i k:Nat} {ts:List (List St)} {b:Bod},(bs.take k).map (cG im)=ts.map some→bs[k]?=some b→cG im b=none→fI im i bs= .error (i+k):=by
 intro bs
 induction bs with
 |nil=>intro i k ts b _ h;simp at h
 |cons x bs ih=>
  intro i k ts b h1 h2 h3
  cases k with
  |zero=>simp at h2;subst h2;simp[fI,h3]
  |succ k=>
   cases ts with
   |nil=>simp at h1
   |cons t ts=>
    simp at h1 h2;have:=ih (i:=i+1) (k:=k) (by rw[List.map_take];exact h1.2) h2 h3;simp only[fI,h1.1,this]
    congr 1
    omega
theorem rc {im:Img}: ∀{bs:List Bod} {i:Nat} {ts:List (List St)},bs.map (cG im)=ts.map some→fI im i bs= .ok ts:=by
 intro bs
 induction bs with
 |nil=>intro i ts h;simp at h;subst h;rfl
 |cons x bs ih=>
  intro i ts h
  cases ts with
  |nil=>simp at h
  |cons t ts=>
   simp at h;simp only[fI,h.1,ih (i:=i+1) h.2]
def kN (l:List (Nat×List St)):List Value:=l.map fun p=> .slice (some ⟨p.1,0,none⟩) p.2.length p.2.length
def eU (w:World) (base:Nat) (v:Value) (l:List (Nat×List St)):Prop:=
 w.ownsRow base 45 1 v l.length (kN l)∧ ∀p∈l,dZ w p.1 p.2∧base≤p.1∧v.ownBlock≠some p.1
def sO (R:Except Nat (List (List St))) (w:World) (en:Ending) (w':World):Prop:=match R with
 | .error k=>en= .returned (.tuple #[.slice none 0 0,.int .i64 k,.bool false])
 | .ok ts=> ∃v l,l.map (·.2)=ts∧en= .returned (.tuple #[v,.int .i64 0,.bool true])∧eU w' w.heap.size v l
theorem wG:(Tryz.prog.info? 45).map (fun i=>(i.zero,i.size,i.bytes))=some (some (.slice none 0 0),1,24):=by kernel_rfl
theorem eU.but {w w':World} {base:Nat} {v:Value} {l:List (Nat×List St)} (h:eU w base v l) (hb:But (fun _=>False) w w'):eU w' base v l:=
 ⟨ar h.1 hb (fun _ _ h=>h),fun p hp=>⟨(h.2 p hp).1.but hb (fun h=>h),(h.2 p hp).2⟩⟩
theorem sP (bi:Nat) (im:Img) (w:World) (hI:bT w bi im) (hW:WfI im):
  Calls Tryz.prog 69 #[.pointer (some ⟨bi,0,none⟩)] w fun en w'=>But (fun _=>False) w w'∧sO (fI im 0 im.bodies) w en w':=by
 obtain⟨R,b5⟩: ∃R,fI im 0 im.bodies=R:=⟨_,rfl⟩;rw[b5];have b3:=hid b5;clear b5;obtain⟨i0,f6,g1,g2,g3⟩:=info_parts wG;obtain⟨v0,v1,v2,bl,e7,hC,hS,hB,hl,f0⟩:=hI;have hI:bT w bi im:=⟨v0,v1,v2,bl,e7,hC,hS,hB,hl,f0⟩;obtain⟨a2,f3,rfl⟩:=au hB;have h0:bl.length≤7:=by have:=hW.nb;rw[←hl]at this;simpa using this
 have HL:=hid hl;clear hl
 go_in
 go_wp2_with fail
 go_loopg [5,6] bl.length (fun mm vs ks wr=> ∃(k:Nat) (ao:Option Addr) (cap:Nat) (l:List (Nat×List St)),vs= .slice ao k cap∧l.length=k∧ks= .int .i64 k∧k≤bl.length∧k+mm≤bl.length∧bl.length≤k+mm∧But (fun _=>False) w wr∧eU wr w.heap.size (.slice ao k cap) l∧Hid ((im.bodies.take k).map (cG im)=(l.map (·.2)).map some))
 case atStart=>exact⟨0,none,0,[],rfl,rfl,rfl,by omega,by omega,by omega,But.refl _ _,⟨cC _ _ _ _,by simp⟩,rfl⟩
 case round=>
  obtain⟨k,ao,cap,l,rfl,f1,rfl,g6,f7,g7,a1,e0,HA⟩:=hrel;have b2:=hid f1;clear f1 f7;have d2:=(e7.but a1 (fun h=>h)).c2
  by_cases hlt:k<bl.length
  ·have hx:=List.getElem?_eq_getElem hlt;obtain⟨g,rfl,g4,g5,a0⟩:=aG (ar hB a1 (fun _ _ h=>h)) (by omega);have q0:=a0 _ _ (fU hx);have q1:=a0 _ _ (fV hx);have q2:=a0 _ _ (iL hx);have q3:=a0 _ _ (iM hx);have q4:=a0 _ _ (iN hx);have a4:bl[k]∈bl:=List.getElem_mem hlt;obtain⟨b0,e4⟩:=f0 _ a4;have e5:WfB im.classes im.sigs bl[k].1:=hW.bod _ (by rw[←HL.out];exact List.mem_map_of_mem a4);have a9:im.bodies[k]?=some bl[k].1:=by rw[←HL.out,List.getElem?_map,hx];rfl
   obtain⟨X,hX⟩: ∃X,bl[k]=X:=⟨_,rfl⟩;rw[hX]at q0 q1 q2 q3 q4 b0 e4 e5 a9;rw[e4]at q4;obtain⟨Xb,Xk,Xt⟩:=X;simp only at q0 q1 q2 q3 q4 b0 e5 a9;obtain⟨ak,capk,rfl⟩:=au b0;have b1:=hid a9;clear a0 hx hX a4 e4 a9;have f8:(k:Int)<(bl.length:Int):=by omega
   go_wp2_with fail;refine(uo bi im Xb ak capk wr (hI.but a1) hW e5 (ar b0 a1 (fun _ _ h=>h))).mono ?_;rintro en w1 ⟨e6,hp⟩;have a6:=e0.but e6;have a3:=a1.trans e6;clear q0 q1 q2 q3 q4 d2;generalize hu:cG im Xb=U at hp
   cases U with
   |none=>
    have hp':en= .returned (.tuple #[.slice none 0 0,.bool false]):=hp;subst hp'
    have a5:Except.error k=R:=by
     rw[←b3.out];have:=oU (i:=0) HA.out b1.out hu;rw[this];simp
    subst a5;clear hu hp HA b1;go_wp2_with fail;exact bodyPost_ret (v:= .tuple #[.slice none 0 0,.int .i64 k,.bool false]) (by simp[results,Tryz.results69,go_sem]) rfl ⟨a3,rfl⟩
   |some t=>
    obtain⟨gt,rfl,e3,f5⟩:=hp;have HU:=hid hu;clear hu;have e2:w.heap.size≤gt:=Nat.le_trans a1.size f5;have ltt:=e3.lt;have e8:w1.ownsRow w.heap.size 45 1 (.slice ao k cap) k (kN l):=by have:=a6.1;rw[b2.out]at this;exact this
    have h4:=a3.size;go_wp2_with (at_builtin;refine wpList_append_lies _ rfl _ _ _ rfl w.heap.size 45 i0 _ 1 24 (by kernel_rfl) f6 g1 g2 g3 rfl (by omega) _ k (kN l) rfl (e8.alloc _) ⟨w1.heap.size,0,none⟩ 1 1 [.slice (some ⟨gt,0,none⟩) t.length t.length] rfl rfl (World.news_of_block (cs:=#[.slice (some ⟨gt,0,none⟩) t.length t.length]) (t:=45) (fr:=(0,0)) (heap_alloc_new w1 _)) (by simp[Value.oneCell']) (by omega) (by unfold maxLen;omega) (by omega) (by simp;omega) (w1.heap.size+1) (by simp) ?_);intro gg cap3 w2 a8 a7 f4 g0;have b9:But (fun k'=>(Value.slice ao k cap).ownBlock=some k') w1 w2:=(But.alloc _ _ _).trans (aQ a7)
    have b4:But (fun _=>False) w w2:=a3.next b9 (fun k' hk' h=>absurd (ay e8 k' h) (by omega))
    have e1:eU w2 w.heap.size (.slice (some ⟨gg,0,none⟩) (k+1) cap3) (l++ [(gt,t)]):=by
     refine⟨?_,?_⟩
     ·rw[List.length_append,b2.out,kN,List.map_append];exact a8
     ·intro p hp
      have key: ∀p1,p1<w1.heap.size→(Value.slice ao k cap).ownBlock≠some p1→(Value.slice (some ⟨gg,0,none⟩) (k+1) cap3).ownBlock≠some p1:=fun p1 h1 h2 h3=>by
       have h5:gg=p1:=by simpa[Value.ownBlock]using h3
       rcases f4 with h|h
       ·exact h2 (by rw[←h5];exact h)
       ·omega
      rcases List.mem_append.1 hp with hp|hp
      ·obtain⟨h1,h2,h3⟩:=a6.2 p hp;exact⟨h1.but b9 h3,h2,key _ h1.lt h3⟩
      ·simp at hp;subst hp;have h3:(Value.slice ao k cap).ownBlock≠some gt:=fun h=>by have:=aU e0.1 _ h;omega
       exact⟨e3.but b9 h3,e2,key _ e3.lt h3⟩
    have f2:Hid ((im.bodies.take (k+1)).map (cG im)=((l++ [(gt,t)]).map (·.2)).map some):=by
     show _=_
     rw[List.take_add_one,b1.out,List.map_append,HA.out];simp[HU.out]
    go_wp2_with fail
    go_roundg (bl.length-(k+1))
    case measure=>omega
    case rel=>exact⟨k+1,_,_,l++ [(gt,t)],rfl,by rw[List.length_append,b2.out];rfl,by simp,by omega,by omega,by omega,b4,e1,f2⟩
  ·have a5:Except.ok (l.map (·.2))=R:=by
    rw[←b3.out]
    symm
    apply rc
    have h1:im.bodies.take k=im.bodies:=List.take_of_length_le (by rw[←HL.out];simp;omega);have h2:=HA.out;rw[h1]at h2;exact h2
   clear HA b3;subst a5;have f8: ¬(k:Int)<(bl.length:Int):=by omega
   go_wp2_with fail;exact bodyPost_ret (v:= .tuple #[.slice ao k cap,.int .i64 0,.bool true]) (by simp[results,Tryz.results69,go_sem]) rfl ⟨a1,_,l,rfl,rfl,e0⟩
theorem oV {s:ByteArray} {e p:Nat} (h:dQ s= .error (e,p)):1≤e∧e≤3:=by
 unfold dQ at h
 split at h
 ·cases h;omega
 split at h
 ·cases h;omega
 ·split at h
  ·cases h;omega
  ·cases h
end
end Go.Proofs.YtpfkkmacakjmbaaGreatDoor
