import Derived.Test.YtpfkkmacakjmbaaGreatDoorP24
import Derived.Test.YtpfkkmacakjmbaaGreatDoorP25
set_option maxRecDepth 100000
set_option maxHeartbeats 6400000
set_option linter.unusedSimpArgs false
set_option linter.unusedVariables false
namespace Go.Proofs.YtpfkkmacakjmbaaGreatDoor
section
open Go Go.RowKit Sp
attribute [local go_sem ↓] Go.wp_at_zero Go.wp_at_succ
def xN:V→Int
 | .i n=>n
 |_=>0
def xO:V→Int
 | .o k=>k+1
 |_=>0
def aJ (v:V):Value:= .agg #[.int .i32 (xN v),.int .i64 (xO v)]
def iw (v:V):List Value:=[.int .i32 (xN v),.int .i64 (xO v)]
def aA (l:List V):List Value:=l.flatMap iw
theorem dv (l:List V):(aA l).length=l.length*2:=by
 induction l with
 |nil=>rfl
 |cons v l ih=>simp[aA,iw]at ih⊢;omega
theorem bF {l:List V} {j k:Nat} {v:V} (h:l[j]?=some v) (hk:k<2):(aA l)[j*2+k]?=(iw v)[k]?:=dR iw 2 (fun _=>rfl) l j k v h hk
theorem oA (l:List V) (j:Nat) (u:V):aA (l.set j u)=((aA l).set (j*2) (.int .i32 (xN u))).set (j*2+1) (.int .i64 (xO u)):=by
 induction l generalizing j with
 |nil=>simp[aA]
 |cons v l ih=>
  cases j with
  |zero=>simp[aA,iw]
  |succ j=>
   have:=ih j;simp only[aA]at this;simp[aA,iw,Nat.succ_mul,this]
theorem zh (t:UInt8):xN (bN t)=0∧xO (bN t)=0:=by unfold bN;split<;>exact⟨rfl,rfl⟩
def dF (e:Nat):Int:=if e=5 then 1 else if e=6 then 2 else if e=7 then 3 else if e=8 then 4 else if e=9 then 5 else if e=10 then 6 else 0
theorem jb (b:Bool) (w:World):
  Calls Tryz.prog 235 #[.bool b] w fun en w'=>en= .returned (aJ (if b=true then .i 1 else .i 0))∧But (fun _=>False) w w':=by
 cases b
 ·go_in
  go_wp2_with fail;exact bodyPost_ret (v:=aJ (.i 0)) (by simp[results,Tryz.results235,go_sem,aJ,xN,xO]) rfl ⟨rfl,But.alloc _ _ _⟩
 ·go_in
  go_wp2_with fail;exact bodyPost_ret (v:=aJ (.i 1)) (by simp[results,Tryz.results235,go_sem,aJ,xN,xO]) rfl ⟨rfl,But.alloc _ _ _⟩
def ka (op:Nat) (a b:Int):Value:=if op=47∧b=0 then .tuple #[aJ .z,.int .i64 3]else .tuple #[aJ (.i (if op=47 then w32 (Int.tdiv a b)else mw op a b)),.int .i64 0]
theorem eY {fn:Func} {Rr:Ending→World→Prop} {a:Act} {w:World} {c f r:Nat} {K N e:Int} (hf:fn.results=#[.cell c 168,.tmp f]) (hd:a.defers=[]) (hc:a.tmps.getD c undef= .pointer (some ⟨r,0,none⟩)) (he:a.tmps.getD f undef= .int .i64 e)
  (h0:w.heap[r]?=some (.cells #[.int .i32 K,.int .i64 N] 168)) (hR:Rr (.returned (.tuple #[.agg #[.int .i32 K,.int .i64 N],.int .i64 e])) w):bodyPost Tryz.prog fn Rr .ret a w:=by
 have r0:=ce0 h0;have r1:=ce1 h0;refine bodyPost_ret (v:= .tuple #[.agg #[.int .i32 K,.int .i64 N],.int .i64 e]) ?_ hd hR;have a0:a.tmps[c]?.getD undef= .pointer (some ⟨r,0,none⟩):=by simpa using hc
 have a1:a.tmps[f]?.getD undef= .int .i64 e:=by simpa using he
 simp[results,hf,a0,a1,go_sem,r0,r1]
def fd (w:World) (r:Nat):Prop:= ∃K N:Int,w.heap[r]?=some (.cells #[.int .i32 K,.int .i64 N] 168)
theorem fd.but {F:Nat→Prop} {w w':World} {r:Nat} (h:fd w r) (hb:But F w w') (hf: ¬F r):fd w' r:=by
 obtain⟨K,N,h⟩:=h;exact⟨K,N,(hb.block r (ae h) hf).trans h⟩
theorem fd.parts {w:World} {r:Nat} (h:fd w r): ∃K N:Int,w.cell? ⟨r,0,none⟩=some (.int .i32 K)∧w.cell? ⟨r,1,none⟩=some (.int .i64 N)∧w.frozen? ⟨r,0,none⟩=false∧w.frozen? ⟨r,1,none⟩=false∧r<w.heap.size:=by
 obtain⟨K,N,h⟩:=h;exact⟨K,N,by rw[cell_of_row w r 0 _ _ (0,0) h];rfl,by rw[cell_of_row w r 1 _ _ (0,0) h];rfl,frozen_of_row w r 0 _ _ h,frozen_of_row w r 1 _ _ h,ae h⟩
theorem fd.put {w:World} {r:Nat} (h:fd w r) (K N:Int):((w.setCell ⟨r,0,none⟩ (.int .i32 K)).setCell ⟨r,1,none⟩ (.int .i64 N)).heap[r]?=some (.cells #[.int .i32 K,.int .i64 N] 168):=by
 obtain⟨K',N',h⟩:=h;exact heap_setCell_same _ r 1 _ _ _ (heap_setCell_same _ r 0 _ _ _ h)
theorem uZ (op:Nat) (hop:op=43∨op=45∨op=42∨op=60∨op=61∨op=47) (a b:Int) (a1: -2147483648≤a) (a2:a<2147483648) (b1: -2147483648≤b) (b2:b<2147483648) (w:World):
  Calls Tryz.prog 234 #[.int .u8 op,.int .i32 a,.int .i32 b] w fun en w'=>en= .returned (ka op a b)∧But (fun _=>False) w w':=by
 rcases hop with rfl|rfl|rfl|rfl|rfl|rfl
 ·go_in
  go_wp2_with fail;exact eY Tryz.results234 rfl rfl rfl (aw rfl _) ⟨rfl,But.alloc _ _ _⟩
 ·go_in
  go_wp2_with fail;exact eY Tryz.results234 rfl rfl rfl (aw rfl _) ⟨rfl,But.alloc _ _ _⟩
 ·go_in
  go_wp2_with fail;exact eY Tryz.results234 rfl rfl rfl (aw rfl _) ⟨rfl,But.alloc _ _ _⟩
 ·rw[show ka 60 a b= .tuple #[aJ (if decide (a<b)=true then .i 1 else .i 0),.int .i64 0]from by unfold ka mw;by_cases h:a<b<;>simp[h]];obtain⟨u,hu⟩: ∃u,(if decide (a<b)=true then V.i 1 else V.i 0)=u:=⟨_,rfl⟩;have HT:=hid (fun w=>jb (decide (a<b)) w);rw[hu]at HT⊢;clear hu
  go_in
  go_wp2_with fail;refine(HT.out _).mono ?_;rintro en w1 ⟨rfl,a0⟩;simp only[aJ];have a3:fd w1 w.heap.size:=fd.but ⟨0,0,heap_alloc_new w _⟩ a0 (fun h=>h);have a4:But (fun _=>False) w w1:=(But.alloc _ _ _).trans a0;obtain⟨K9,N9,r0,r1,f0,f1,a5⟩:=a3.parts;clear a0 HT;go_wp2_with fail;exact eY Tryz.results234 rfl rfl rfl (a3.put _ _) ⟨rfl,a4.next (dL _ _ _ _) (fun k hk e=>by have e:k=w.heap.size:=e;omega)⟩
 ·rw[show ka 61 a b= .tuple #[aJ (if decide (a=b)=true then .i 1 else .i 0),.int .i64 0]from by unfold ka mw;by_cases h:a=b<;>simp[h]];obtain⟨u,hu⟩: ∃u,(if decide (a=b)=true then V.i 1 else V.i 0)=u:=⟨_,rfl⟩;have HT:=hid (fun w=>jb (decide (a=b)) w);rw[hu]at HT⊢;clear hu
  go_in
  go_wp2_with fail;refine(HT.out _).mono ?_;rintro en w1 ⟨rfl,a0⟩;simp only[aJ];have a3:fd w1 w.heap.size:=fd.but ⟨0,0,heap_alloc_new w _⟩ a0 (fun h=>h);have a4:But (fun _=>False) w w1:=(But.alloc _ _ _).trans a0;obtain⟨K9,N9,r0,r1,f0,f1,a5⟩:=a3.parts;clear a0 HT;go_wp2_with fail;exact eY Tryz.results234 rfl rfl rfl (a3.put _ _) ⟨rfl,a4.next (dL _ _ _ _) (fun k hk e=>by have e:k=w.heap.size:=e;omega)⟩
 ·by_cases h0:b=0
  ·subst h0;rw[show ka 47 a 0= .tuple #[.agg #[.int .i32 0,.int .i64 0],.int .i64 3]from rfl]
   go_in
   go_wp2_with fail;exact eY Tryz.results234 rfl rfl rfl (aw rfl _) ⟨rfl,But.alloc _ _ _⟩
  ·rw[show ka 47 a b= .tuple #[.agg #[.int .i32 (wrap32 (Int.tdiv a b)),.int .i64 0],.int .i64 0]from by unfold ka;rw[if_neg (by omega)];rfl];have a6:(b==0)=false:=by simpa using h0
   go_in
   go_wp2_with fail;exact eY Tryz.results234 rfl rfl rfl (aw rfl _) ⟨rfl,But.alloc _ _ _⟩
end
section
open Go Go.RowKit Sp
def XwC (w:World) (b tx:Nat) (inp:ByteArray) (r:Int) (vo vb:Value) (cn:Int):Prop:=
 w.heap[b]?=some (.cells #[.pointer (some ⟨tx,0,none⟩),.string inp,.int .i64 r,vo,vb,.int .i64 cn] 211)
section
variable {w:World} {b tx:Nat} {inp:ByteArray} {r:Int} {vo vb:Value} {cn:Int}
theorem XwC.lt (h:XwC w b tx inp r vo vb cn):b<w.heap.size:=ae h
theorem XwC.c0 (h:XwC w b tx inp r vo vb cn):w.cell? ⟨b,0,none⟩=some (.pointer (some ⟨tx,0,none⟩)):=ce0 h
theorem XwC.c1 (h:XwC w b tx inp r vo vb cn):w.cell? ⟨b,1,none⟩=some (.string inp):=ce1 h
theorem XwC.c2 (h:XwC w b tx inp r vo vb cn):w.cell? ⟨b,2,none⟩=some (.int .i64 r):=ce2 h
theorem XwC.c3 (h:XwC w b tx inp r vo vb cn):w.cell? ⟨b,3,none⟩=some vo:=ce3 h
theorem XwC.c4 (h:XwC w b tx inp r vo vb cn):w.cell? ⟨b,4,none⟩=some vb:=ce4 h
theorem XwC.c5 (h:XwC w b tx inp r vo vb cn):w.cell? ⟨b,5,none⟩=some (.int .i64 cn):=ce5 h
theorem XwC.fz (h:XwC w b tx inp r vo vb cn) (j:Nat):w.frozen? ⟨b,j,none⟩=false:=frozen_of_row w b j _ _ h
theorem XwC.but {F:Nat→Prop} {w':World} (h:XwC w b tx inp r vo vb cn) (hb:But F w w') (hf: ¬F b):XwC w' b tx inp r vo vb cn:=(hb.block b h.lt hf).trans h
theorem XwC.set2 (h:XwC w b tx inp r vo vb cn) (n:Int):XwC (w.setCell ⟨b,2,none⟩ (.int .i64 n)) b tx inp n vo vb cn:=heap_setCell_same w b 2 _ _ _ h
theorem XwC.set3 (h:XwC w b tx inp r vo vb cn) (v:Value):XwC (w.setCell ⟨b,3,none⟩ v) b tx inp r v vb cn:=heap_setCell_same w b 3 _ _ _ h
theorem XwC.set4 (h:XwC w b tx inp r vo vb cn) (v:Value):XwC (w.setCell ⟨b,4,none⟩ v) b tx inp r vo v cn:=heap_setCell_same w b 4 _ _ _ h
theorem XwC.set5 (h:XwC w b tx inp r vo vb cn) (n:Int):XwC (w.setCell ⟨b,5,none⟩ (.int .i64 n)) b tx inp r vo vb n:=heap_setCell_same w b 5 _ _ _ h
end
def XoC (w:World) (g c:Nat) (v:Value) (sn:Int):Prop:=w.heap[g]?=some (.cells #[.int .u8 c,v,.int .i64 sn] 318)
def fL (gs:List Nat):List Value:=gs.map fun g=> .pointer (some ⟨g,0,none⟩)
abbrev FrQ (P:Nat→Prop) (w0:World) (k:Nat):Prop:=w0.heap.size≤k∧ ¬P k
def nM (bw:Nat) (vo vb:Value) (gs:List Nat) (fv:List Value) (k:Nat):Prop:=
 k=bw∨vo.ownBlock=some k∨vb.ownBlock=some k∨k∈gs∨ ∃v∈fv,v.ownBlock=some k
structure WdQ (P:Nat→Prop) (w0 w:World) (bw tx:Nat) (inp:ByteArray) (s:Ev) (vo vb:Value) (gs:List Nat) (fv:List Value) (cn:Int) (sn:Nat→Int):Prop where
 old:But (fun _=>False) w0 w
 wd:XwC w bw tx inp (min s.read inp.size:Nat) vo vb cn
 out:w.ownsRow w0.heap.size 5 1 vo s.out.length (Lib.byteCells s.out)
 ob:w.ownsRow w0.heap.size 315 1 vb s.heap.length (fL gs)
 lg:gs.length=s.heap.length
 lf:fv.length=s.heap.length
 obs: ∀(k:Nat) o g v,s.heap[k]?=some o→gs[k]?=some g→fv[k]?=some v→XoC w g (65+o.cls) v (sn k)∧w.ownsRow w0.heap.size 168 2 v o.fs.length (aA o.fs)
 nd: ∀(j k:Nat) g,gs[j]?=some g→gs[k]?=some g→j=k
 own: ∀k,nM bw vo vb gs fv k→w0.heap.size≤k∧ ¬P k
 pl: ∀k,P k→k<w.heap.size∧ ∀c fz,w.heap[k]?≠some (.cells c 5 fz)
 sf: ∀(j k:Nat) v v' g,fv[j]?=some v→fv[k]?=some v'→v.ownBlock=some g→v'.ownBlock=some g→j=k
 se:0≤cn∧ ∀k,sn k≤cn
theorem cr {w:World} {g k:Nat} {c c':Array Value} {t t':TypeId} {fr fr':Nat×Nat} (hk:w.heap[k]?=some (.cells c' t' fr')) (hg:w.heap[g]?=some (.cells c t fr)) (h:t≠t'):k≠g:=fun e=>by
 subst e;rw[hk]at hg;injection hg with hg;injection hg with _ h2;exact h h2.symm
section
variable {P:Nat→Prop} {w0 w w':World} {bw tx:Nat} {inp:ByteArray} {s:Ev} {vo vb:Value} {gs:List Nat} {fv:List Value} {cn:Int} {sn:Nat→Int}
theorem WdQ.k2 (h:WdQ P w0 w bw tx inp s vo vb gs fv cn sn):w0.heap.size≤bw∧ ¬P bw:=h.own bw (Or.inl rfl)
theorem WdQ.k4 (h:WdQ P w0 w bw tx inp s vo vb gs fv cn sn) {g:Nat} (hg:vo.ownBlock=some g):w0.heap.size≤g∧ ¬P g:=h.own g (Or.inr (Or.inl hg))
theorem WdQ.k5 (h:WdQ P w0 w bw tx inp s vo vb gs fv cn sn) {g:Nat} (hg:vb.ownBlock=some g):w0.heap.size≤g∧ ¬P g:=h.own g (Or.inr (Or.inr (Or.inl hg)))
theorem WdQ.k7 (h:WdQ P w0 w bw tx inp s vo vb gs fv cn sn) {g:Nat} (hg:g∈gs):w0.heap.size≤g∧ ¬P g:=h.own g (Or.inr (Or.inr (Or.inr (Or.inl hg))))
theorem WdQ.k8 (h:WdQ P w0 w bw tx inp s vo vb gs fv cn sn) {v:Value} {g:Nat} (hv:v∈fv) (hg:v.ownBlock=some g):w0.heap.size≤g∧ ¬P g:=h.own g (Or.inr (Or.inr (Or.inr (Or.inr ⟨v,hv,hg⟩))))
theorem WdQ.obj (h:WdQ P w0 w bw tx inp s vo vb gs fv cn sn) {k:Nat} (hk:k<s.heap.length): ∃(o:Ob) (g:Nat) (v:Value),s.heap[k]?=some o∧gs[k]?=some g∧fv[k]?=some v∧XoC w g (65+o.cls) v (sn k)∧w.ownsRow w0.heap.size 168 2 v o.fs.length (aA o.fs):=by
 have h1:=List.getElem?_eq_getElem hk;have h2:=List.getElem?_eq_getElem (show k<gs.length by rw[h.lg];exact hk);have h3:=List.getElem?_eq_getElem (show k<fv.length by rw[h.lf];exact hk);exact⟨_,_,_,h1,h2,h3,(h.obs k _ _ _ h1 h2 h3).1,(h.obs k _ _ _ h1 h2 h3).2⟩
theorem WdQ.mg (h:WdQ P w0 w bw tx inp s vo vb gs fv cn sn) {g:Nat} (hg:g∈gs): ∃(c:Nat) (v:Value) (q:Int),XoC w g c v q:=by
 obtain⟨k,hk,rfl⟩:=List.getElem_of_mem hg;obtain⟨o,g',v,_,h2,_,h4,_⟩:=h.obj (by rw[←h.lg];exact hk);rw[List.getElem?_eq_getElem hk]at h2
 cases h2
 exact⟨_,_,_,h4⟩
theorem WdQ.mv (h:WdQ P w0 w bw tx inp s vo vb gs fv cn sn) {v:Value} (hv:v∈fv): ∃(n:Nat) (xs:List Value),w.ownsRow w0.heap.size 168 2 v n xs:=by
 obtain⟨k,hk,rfl⟩:=List.getElem_of_mem hv;obtain⟨o,g',v,_,_,h3,_,h5⟩:=h.obj (by rw[←h.lf];exact hk);rw[List.getElem?_eq_getElem hk]at h3
 cases h3
 exact⟨_,_,h5⟩
theorem WdQ.lt (h:WdQ P w0 w bw tx inp s vo vb gs fv cn sn) {k:Nat} (hk:nM bw vo vb gs fv k):k<w.heap.size:=by
 rcases hk with rfl|hk|hk|hk| ⟨v,hv,hk⟩
 ·exact h.wd.lt
 ·exact aU h.out k hk
 ·exact aU h.ob k hk
 ·obtain⟨c,v,q,ho⟩:=h.mg hk;exact ae ho
 ·obtain⟨n,xs,ho⟩:=h.mv hv;exact aU ho k hk
theorem WdQ.but {F:Nat→Prop} (h:WdQ P w0 w bw tx inp s vo vb gs fv cn sn) (hB:But F w w') (h0: ∀k,F k→w0.heap.size≤k) (h1: ∀k,nM bw vo vb gs fv k→ ¬F k) (hp: ∀k,P k→ ¬F k):WdQ P w0 w' bw tx inp s vo vb gs fv cn sn:=by
 refine⟨h.old.next hB (fun k hk hf=>by have:=h0 k hf;omega),h.wd.but hB (h1 _ (Or.inl rfl)),ar h.out hB (fun g hg=>h1 g (Or.inr (Or.inl hg))),ar h.ob hB (fun g hg=>h1 g (Or.inr (Or.inr (Or.inl hg)))),h.lg,h.lf,fun k o g v a b c=> ?_,h.nd,h.own,fun k hk=> ?_,h.sf,h.se⟩
 ·obtain⟨x,y⟩:=h.obs k o g v a b c;exact⟨(hB.block g (ae x) (h1 g (Or.inr (Or.inr (Or.inr (Or.inl (List.mem_of_getElem? b))))))).trans x,ar y hB (fun q hq=>h1 q (Or.inr (Or.inr (Or.inr (Or.inr ⟨v,List.mem_of_getElem? c,hq⟩)))))⟩
 ·obtain⟨a,b⟩:=h.pl k hk;refine⟨Nat.lt_of_lt_of_le a hB.size,fun c fz e=> ?_⟩;rw[hB.block k a (hp k hk)]at e;exact b c fz e
theorem WdQ.new (h:WdQ P w0 w bw tx inp s vo vb gs fv cn sn) (hB:But (fun _=>False) w w'):WdQ P w0 w' bw tx inp s vo vb gs fv cn sn:=h.but hB (fun _ h=>h.elim) (fun _ _ h=>h) (fun _ _ h=>h)
theorem WdQ.grow (h:WdQ P w0 w bw tx inp s vo vb gs fv cn sn) (hB:But (fun _=>False) w w') (ht: ∀k,w.heap.size≤k→k<w'.heap.size→ ∀c fz,w'.heap[k]?≠some (.cells c 5 fz)):WdQ (fun k=>P k∨(w.heap.size≤k∧k<w'.heap.size)) w0 w' bw tx inp s vo vb gs fv cn sn:=by
 have h1:=h.new hB;refine⟨h1.old,h1.wd,h1.out,h1.ob,h1.lg,h1.lf,h1.obs,h1.nd,fun k hk=>⟨(h1.own k hk).1,fun hp=> ?_⟩,fun k hk=> ?_,h1.sf,h1.se⟩
 ·rcases hp with hp|hp
  ·exact(h1.own k hk).2 hp
  ·have:=h.lt hk;omega
 ·rcases hk with hk|hk
  ·exact h1.pl k hk
  ·exact⟨hk.2,ht k hk.1 hk.2⟩
theorem WdQ.less {Q:Nat→Prop} (h:WdQ P w0 w bw tx inp s vo vb gs fv cn sn) (hs: ∀k,Q k→P k):WdQ Q w0 w bw tx inp s vo vb gs fv cn sn:=
 ⟨h.old,h.wd,h.out,h.ob,h.lg,h.lf,h.obs,h.nd,fun k hk=>⟨(h.own k hk).1,fun hp=>(h.own k hk).2 (hs k hp)⟩,fun k hk=>h.pl k (hs k hk),h.sf,h.se⟩
theorem WdQ.add (h:WdQ P w0 w bw tx inp s vo vb gs fv cn sn) {Q:Nat→Prop} (hQ: ∀k,Q k→ ∃c t fz,w.heap[k]?=some (.cells c t fz)∧t≠5∧(t=168→ ∀v∈fv,v.ownBlock≠some k)∧t≠211∧t≠315∧t≠318):WdQ (fun k=>P k∨Q k) w0 w bw tx inp s vo vb gs fv cn sn:=by
 refine⟨h.old,h.wd,h.out,h.ob,h.lg,h.lf,h.obs,h.nd,fun j hj=>⟨(h.own j hj).1,fun hp=> ?_⟩,fun j hj=> ?_,h.sf,h.se⟩
 ·rcases hp with hp|hq
  ·exact(h.own j hj).2 hp
  ·obtain⟨c,t,fz,hk,t1,t2,t3,t4,t5⟩:=hQ j hq;rcases hj with rfl|hj|hj|hj| ⟨v,hv,hj⟩
   ·exact cr h.wd hk t3 rfl
   ·exact aF h.out hk (Ne.symm t1) hj
   ·exact aF h.ob hk (Ne.symm t4) hj
   ·obtain⟨c',v',q,ho⟩:=h.mg hj;exact cr ho hk t5 rfl
   ·by_cases e:t=168
    ·exact t2 e v hv hj
    ·obtain⟨n',xs,ho⟩:=h.mv hv;exact aF ho hk (Ne.symm e) hj
 ·rcases hj with hj|hj
  ·exact h.pl j hj
  ·obtain⟨c,t,fz,hk,t1,_⟩:=hQ j hj;exact⟨ae hk,fun c' fz' e=>by rw[hk]at e;injection e with e;injection e with _ h2;exact t1 h2⟩
structure zi (P:Nat→Prop) (w0 w':World) (bw tx:Nat) (inp:ByteArray) (s:Ev) (vo vb:Value) (gs:List Nat) (fv:List Value) (cn:Int) (sn:Nat→Int) (t:TypeId):Prop where
 old:But (fun _=>False) w0 w'
 wd:t≠211→XwC w' bw tx inp (min s.read inp.size:Nat) vo vb cn
 out:t≠5→w'.ownsRow w0.heap.size 5 1 vo s.out.length (Lib.byteCells s.out)
 ob:t≠315→w'.ownsRow w0.heap.size 315 1 vb s.heap.length (fL gs)
 obj:t≠318→ ∀(k:Nat) o g v,s.heap[k]?=some o→gs[k]?=some g→fv[k]?=some v→XoC w' g (65+o.cls) v (sn k)
 fld:t≠168→ ∀(k:Nat) o g v,s.heap[k]?=some o→gs[k]?=some g→fv[k]?=some v→w'.ownsRow w0.heap.size 168 2 v o.fs.length (aA o.fs)
 pl: ∀k,P k→k<w'.heap.size∧ ∀c fz,w'.heap[k]?≠some (.cells c 5 fz)
theorem WdQ.stand (h:WdQ P w0 w bw tx inp s vo vb gs fv cn sn) {g:Nat} {c:Array Value} {t:TypeId} {fr:Nat×Nat} (hg:w.heap[g]?=some (.cells c t fr)) (hg0:w0.heap.size≤g) (hgp: ¬P g) (hB:But (· =g) w w'):zi P w0 w' bw tx inp s vo vb gs fv cn sn t:=by
 refine⟨h.old.next hB (fun k hk e=>by have e:k=g:=e;omega),fun ht=>h.wd.but hB (cr h.wd hg ht),fun ht=>ar h.out hB (fun k hk e=>aF h.out hg (Ne.symm ht) (e▸hk)),fun ht=>ar h.ob hB (fun k hk e=>aF h.ob hg (Ne.symm ht) (e▸hk)),fun ht k o q v a b d=> ?_,fun ht k o q v a b d=> ?_,fun k hk=> ?_⟩
 ·have x:=(h.obs k o q v a b d).1;exact(hB.block q (ae x) (cr x hg ht)).trans x
 ·have y:=(h.obs k o q v a b d).2;exact ar y hB (fun j hj e=>aF y hg (Ne.symm ht) (e▸hj))
 ·obtain⟨a,b⟩:=h.pl k hk;refine⟨Nat.lt_of_lt_of_le a hB.size,fun c fz e=> ?_⟩;rw[hB.block k a (fun e=>hgp (e▸hk))]at e;exact b c fz e
theorem WdQ.readd (h:WdQ P w0 w bw tx inp s vo vb gs fv cn sn) {n:Nat} (hn:n=min (s.read+1) inp.size):WdQ P w0 (w.setCell ⟨bw,2,none⟩ (.int .i64 n)) bw tx inp {s with read:=s.read+1} vo vb gs fv cn sn:=by
 have a:=h.stand h.wd h.k2.1 h.k2.2 (But.setB w bw 2 (.int .i64 n));refine⟨a.old,?_,a.out (by decide),a.ob (by decide),h.lg,h.lf,fun k o g v x y z=>⟨a.obj (by decide) k o g v x y z,a.fld (by decide) k o g v x y z⟩,h.nd,h.own,a.pl,h.sf,h.se⟩;have:=h.wd.set2 (n:Int);rw[hn]at this⊢;exact this
theorem WdQ.unread (h:WdQ P w0 w bw tx inp s vo vb gs fv cn sn) (hn:inp.size≤s.read):WdQ P w0 w bw tx inp {s with read:=s.read+1} vo vb gs fv cn sn:=
 ⟨h.old,by have:=h.wd;rw[show min s.read inp.size=min (s.read+1) inp.size from by omega]at this;exact this,h.out,h.ob,h.lg,h.lf,h.obs,h.nd,h.own,h.pl,h.sf,h.se⟩
theorem WdQ.count (h:WdQ P w0 w bw tx inp s vo vb gs fv cn sn) (n:Int) (hn:cn≤n):WdQ P w0 (w.setCell ⟨bw,5,none⟩ (.int .i64 n)) bw tx inp s vo vb gs fv n sn:=by
 have a:=h.stand h.wd h.k2.1 h.k2.2 (But.setB w bw 5 (.int .i64 n));exact⟨a.old,h.wd.set5 n,a.out (by decide),a.ob (by decide),h.lg,h.lf,fun k o g v x y z=>⟨a.obj (by decide) k o g v x y z,a.fld (by decide) k o g v x y z⟩,h.nd,h.own,a.pl,h.sf,Int.le_trans h.se.1 hn,fun k=>Int.le_trans (h.se.2 k) hn⟩
theorem pd {w:World} {base n g j:Nat} {v:Value} {l:List V} (u:V) (h:w.ownsRow base 168 2 v n (aA l)) (hg:v.ownBlock=some g):
  ((w.setCell ⟨g,j*2,none⟩ (.int .i32 (xN u))).setCell ⟨g,j*2+1,none⟩ (.int .i64 (xO u))).ownsRow base 168 2 v n (aA (l.set j u)):=by
 have a0:=h.1;rcases h.2 with⟨rfl,_⟩ | ⟨g',cap,cur,rfl,hb,hh,a1,a2,a3,a4⟩
 ·cases hg
 ·simp[Value.ownBlock]at hg;subst hg;refine⟨by rw[←a0,dv,dv];simp,Or.inr ⟨g',cap,(cur.setIfInBounds (j*2) (.int .i32 (xN u))).setIfInBounds (j*2+1) (.int .i64 (xO u)),rfl,hb,?_,a1,a2,by simpa using a3,?_⟩⟩
  ·exact heap_setCell_same _ g' _ _ _ _ (heap_setCell_same _ g' _ _ _ _ hh)
  ·rw[oA,←a4];simp[List.take_set]
theorem WdQ.setF (h:WdQ P w0 w bw tx inp s vo vb gs fv cn sn) {k g q:Nat} {o:Ob} {v:Value} (hk:s.heap[k]?=some o) (hq:gs[k]?=some q) (hv:fv[k]?=some v) (hg:v.ownBlock=some g) (j:Nat) (u:V):WdQ P w0 ((w.setCell ⟨g,j*2,none⟩ (.int .i32 (xN u))).setCell ⟨g,j*2+1,none⟩ (.int .i64 (xO u))) bw tx inp (s.put k j u) vo vb gs fv cn sn:=by
 have hB:But (· =g) w ((w.setCell ⟨g,j*2,none⟩ (.int .i32 (xN u))).setCell ⟨g,j*2+1,none⟩ (.int .i64 (xO u))):=(But.setB _ _ _ _).trans (But.setB _ _ _ _);have hr:=(h.obs k o q v hk hq hv).2;have hm:=List.mem_of_getElem? hv;obtain⟨cur,a2⟩:=eM hr hg;have a:=h.stand a2 (h.k8 hm hg).1 (h.k8 hm hg).2 hB;have e1:(s.put k j u).heap=s.heap.set k ⟨o.cls,o.fs.set j u⟩:=by simp[Ev.put,(Ev.at hk).1,(Ev.at hk).2]
 refine⟨a.old,a.wd (by decide),a.out (by decide),?_,by rw[e1];simpa using h.lg,by rw[e1];simpa using h.lf,?_,h.nd,h.own,a.pl,h.sf,h.se⟩
 ·rw[e1,List.length_set];exact a.ob (by decide)
 ·intro i o' q' v' hi a1 a0;rw[e1,List.getElem?_set]at hi
  split at hi
  ·rename_i he
   subst he;rw[hv]at a0;rw[hq]at a1
   cases a0
   cases a1
   split at hi
   ·cases hi
    refine⟨a.obj (by decide) k o q v hk hq hv,?_⟩;simp only[List.length_set];exact pd u hr hg
   ·cases hi
  ·rename_i he
   exact⟨a.obj (by decide) i o' q' v' hi a1 a0,ar (h.obs i o' q' v' hi a1 a0).2 hB (fun i' hi' e=>he (h.sf k i v v' g hv a0 hg (e▸hi')))⟩
theorem WdQ.tmp {F:Nat→Prop} (h:WdQ P w0 w bw tx inp s vo vb gs fv cn sn) (hB:But F w w') (hF: ∀k,F k→P k∧w0.heap.size≤k) (ht: ∀k,F k→ ∀c fz,w'.heap[k]?≠some (.cells c 5 fz)):WdQ P w0 w' bw tx inp s vo vb gs fv cn sn:=by
 have h1: ∀k,nM bw vo vb gs fv k→ ¬F k:=fun k hk hf=>(h.own k hk).2 (hF k hf).1
 have a:=(h.less (Q:=fun _=>False) (fun _ h=>h.elim)).but hB (fun k hf=>(hF k hf).2) h1 (fun _ h=>h.elim);refine⟨a.old,a.wd,a.out,a.ob,a.lg,a.lf,a.obs,a.nd,h.own,fun k hk=> ?_,a.sf,a.se⟩;obtain⟨x,y⟩:=h.pl k hk;refine⟨Nat.lt_of_lt_of_le x hB.size,fun c fz e=> ?_⟩
 by_cases hf:F k
 ·exact ht k hf c fz e
 ·rw[hB.block k x hf]at e;exact y c fz e
end
end
section
open Go Go.RowKit Sp
attribute [local go_sem ↓] Go.wp_at_zero Go.wp_at_succ
theorem rJ {fn:Func} {Rr:Ending→World→Prop} {a:Act} {w:World} {c r:Nat} {K N:Int} (hf:fn.results=#[.cell c 168]) (hd:a.defers=[]) (hc:a.tmps.getD c undef= .pointer (some ⟨r,0,none⟩))
  (h0:w.heap[r]?=some (.cells #[.int .i32 K,.int .i64 N] 168)) (hR:Rr (.returned (.agg #[.int .i32 K,.int .i64 N])) w):bodyPost Tryz.prog fn Rr .ret a w:=by
 have r0:=ce0 h0;have r1:=ce1 h0;refine bodyPost_ret (v:= .agg #[.int .i32 K,.int .i64 N]) ?_ hd hR;have a0:a.tmps[c]?.getD undef= .pointer (some ⟨r,0,none⟩):=by simpa using hc
 simp[results,hf,a0,go_sem,r0,r1]
theorem gR:(Tryz.prog.info? 168).map (fun i=>(i.zero,i.size,i.bytes))=some (some (.agg #[.int .i32 0,.int .i64 0]),2,16):=by kernel_rfl
def fM (n:Nat):List Value:=(List.replicate n [Value.int .i32 0,.int .i64 0]).flatten
theorem xm (n:Nat):madeCells #[.int .i32 0,.int .i64 0] (n*2)=(fM n).toArray:=by
 apply Array.ext
 ·rw[size_madeCells];simp[fM]
 ·intro k h1 h2;rw[size_madeCells]at h1;have hk:k<n*2:=by simpa using h1
  have key: ∀(n k:Nat),k<n*2→(fM n)[k]?=some (if k % 2=0 then Value.int .i32 0 else .int .i64 0):=by
   intro n
   induction n with
   |zero=>intro k h;omega
   |succ n ih=>
    intro k h
    match k,h with
    |0,_=>simp[fM,List.replicate_succ]
    |1,_=>simp[fM,List.replicate_succ]
    |k+2,h=>
     have:=ih k (by omega);simp only[fM,List.replicate_succ,List.flatten_cons,List.cons_append,List.nil_append,List.getElem?_cons_succ]at this⊢;rw[this];simp[Nat.add_mod]
  have:=key n k hk;have a0:(fM n)[k]?=some ((fM n).toArray[k]):=by simp
  rw[a0]at this;have e:=Option.some.inj this;rw[e];rcases Nat.mod_two_eq_zero_or_one k with hm|hm<;>simp[madeCells,hm]
theorem rK (n:Nat) (hn:n≤1000) (w:World):(Instr.makeSlice 213 (.int .i64 (n:Int)) (.int .i64 (n:Int))).run Tryz.prog w= .ok (.slice (some ⟨w.heap.size,0,none⟩) n n) (w.alloc (.cells (fM n).toArray 168)):=by
 have a0:=gR
 cases hi:Tryz.prog.info? 168 with
 |none=>rw[hi]at a0;cases a0
 |some i=>
  rw[hi]at a0;simp only[Option.map_some,Option.some.injEq,Prod.mk.injEq]at a0;obtain⟨hz,hs,hb⟩:=a0;have:=run_make (P:=Tryz.prog) w 213 168 i _ (by kernel_rfl) hi hz .i64 .i64 n n (by omega) (by omega) (by rw[hb];omega) (by omega);rw[this,hs];simp only[Int.toNat_natCast,Value.cells];rw[xm]
theorem tk (ts:List UInt8):fM ts.length=aA (ts.map bN):=by
 induction ts with
 |nil=>rfl
 |cons t ts ih=>
  obtain⟨h1,h2⟩:=zh t;simp only[fM,aA]at ih;simp[fM,List.replicate_succ,aA,iw,h1,h2,ih]
theorem rL {w:World} {g base:Nat} {ts:List UInt8} (hb:base≤g) (hg:w.heap[g]?=some (.cells (fM ts.length).toArray 168)) (hl:ts.length≤1000):w.ownsRow base 168 2 (.slice (some ⟨g,0,none⟩) ts.length ts.length) ts.length (aA (ts.map bN)):=by
 have hz:=tk ts;have hn:(fM ts.length).length=ts.length*2:=by rw[hz,dv];simp
 refine⟨by rw[dv];simp,Or.inr ⟨g,ts.length,(fM ts.length).toArray,rfl,hb,hg,Nat.le_refl _,by unfold maxLen;omega,by simpa using hn,?_⟩⟩;rw[←hz];simp only;rw[List.take_of_length_le (by omega)]
section
variable {P:Nat→Prop} {w0 w:World} {be bw tx bl:Nat} {inp:ByteArray} {s:Ev} {lv vo vb:Value} {l:List V} {gs:List Nat} {fv:List Value}
theorem oB (b:UInt8) (m:Int) (a:UInt8) (lo:List UInt8) (al:Option Addr) (capl:Nat) (ai:Option Addr) (ni ci:Nat) (w:World) (hl:lo.length≤5):
  Calls Tryz.prog 138 #[.agg #[.int .u8 b.toNat,.int .i64 m,.int .u8 a.toNat,.slice al lo.length capl,.slice ai ni ci]] w fun en w'=> ∃(bl:Nat) (lv:Value),en= .returned (.pointer (some ⟨bl,0,none⟩))∧But (fun _=>False) w w'∧w'.heap[bl]?=some (.cells #[lv] 280)∧w'.ownsRow w.heap.size 168 2 lv lo.length (aA (lo.map bN))∧w.heap.size≤bl:=by
 have a0:=rK lo.length (by omega)
 go_in
 go_wp2_with fail;go_ret;refine⟨w.heap.size+1+1,.slice (some ⟨w.heap.size+1,0,none⟩) lo.length lo.length,rfl,((But.alloc _ _ _).trans (But.alloc _ _ _)).trans (But.alloc _ _ _),aw (by simp) _,?_,by omega⟩;refine rL (by omega) (((But.alloc (fun _=>False) _ _).block _ (by simp) (fun h=>h)).trans (aw (by simp) _)) (by omega)
end
theorem yo:(Tryz.prog.info? 315).map (fun i=>(i.zero,i.size,i.bytes))=some (some (.pointer none),1,8):=by kernel_rfl
section
variable {P:Nat→Prop} {w0 w:World} {be bw tx bl:Nat} {inp:ByteArray} {s:Ev} {lv vo vb:Value} {l:List V} {gs:List Nat} {fv:List Value}
theorem eZ {α:Type} {xs:List α} {x u:α} {i:Nat} (h:(xs++ [x])[i]?=some u):(i<xs.length∧xs[i]?=some u)∨(i=xs.length∧u=x):=by
 rcases Nat.lt_or_ge i xs.length with hl|hl
 ·rw[List.getElem?_append_left hl]at h;exact Or.inl ⟨hl,h⟩
 ·rw[List.getElem?_append_right hl]at h
  cases hq:i-xs.length with
  |zero=>rw[hq]at h;cases h;exact Or.inr ⟨by omega,rfl⟩
  |succ q=>rw[hq]at h;simp at h
end
theorem xn:(Tryz.prog.info? 5).map (fun i=>(i.zero,i.size,i.bytes))=some (some (.int .u8 0),1,1):=by kernel_rfl
theorem u3 {w w':World} (h:But (fun _=>False) w w'):Below w.heap.size w w':=h.toBelow (Nat.le_refl _) (fun _ h=>h.elim)
section
variable {P:Nat→Prop} {w0 w w':World} {be bw tx bl:Nat} {inp:ByteArray} {s:Ev} {lv vo vb:Value} {l:List V} {gs:List Nat} {fv:List Value}
structure cR (w0 w w':World):Prop where
 bel:Below w0.heap.size w w'
 kept: ∀(k:Nat) o,w.heap[k]?=some o→(∀c fz,o≠ .cells c 5 fz)→w'.heap[k]?=some o
theorem cR.grown {X w2:World} {v:Value} {n:Nat} {xs:List Value} (h0:w0.heap.size≤X.heap.size) (ho:X.ownsRow w0.heap.size 5 1 v n xs) (hB:But (fun k=>v.ownBlock=some k) X w2):cR w0 X w2:=by
 refine⟨⟨hB.os,hB.tape,hB.output,hB.size,fun k hk=> ?_⟩,fun k o hk hn=> ?_⟩
 ·exact hB.block k (by omega) (fun hv=>by have:=ay ho k hv;omega)
 ·refine(hB.block k (ae hk) (fun hv=> ?_)).trans hk;obtain⟨cur,hc⟩:=eM ho hv;rw[hk]at hc
  cases hc
  exact hn _ _ rfl
end
structure NB (w X:World):Prop where
 but:But (fun _=>False) w X
 nb: ∀k,w.heap.size≤k→k<X.heap.size→ ∀c fz,X.heap[k]?≠some (.cells c 5 fz)
theorem NB.refl (w:World):NB w w:=⟨But.refl _ _,fun k h1 h2=>by omega⟩
theorem NB.alloc {w X:World} {c:Array Value} {t:Nat} (h:NB w X) (ht:t≠5):NB w (X.alloc (.cells c t)):=by
 refine⟨h.but.trans (But.alloc _ _ _),fun k h1 h2 c' fz e=> ?_⟩;have h2:k<X.heap.size+1:=by simpa using h2
 rcases Nat.lt_or_ge k X.heap.size with h3|h3
 ·rw[(But.alloc (fun _=>False) X _).block k h3 (fun h=>h)]at e;exact h.nb k h1 h3 c' fz e
 ·have:k=X.heap.size:=by omega
  subst this;rw[heap_alloc_new]at e
  cases e
  exact ht rfl
theorem eE {w:World} {c1 c2 c3 c4:Array Value}:NB w ((((w.alloc (.cells c1 219)).alloc (.cells c2 168)).alloc (.cells c3 168)).alloc (.cells c4 168)):=
 ((((NB.refl w).alloc (by decide)).alloc (by decide)).alloc (by decide)).alloc (by decide)
section
variable {P:Nat→Prop} {w0 w:World} {be bw tx bl:Nat} {inp:ByteArray} {s:Ev} {lv vo vb:Value} {l:List V} {gs:List Nat} {fv:List Value}
abbrev PQ (P:Nat→Prop) (w X:World) (k:Nat):Prop:=P k∨(w.heap.size≤k∧k<X.heap.size)
end
theorem fc {fn:Func} {Rr:Ending→World→Prop} {a:Act} {w:World} {c f:Nat} {u v:Value} (hf:fn.results=#[.tmp c,.tmp f]) (hd:a.defers=[]) (hc:a.tmps.getD c undef=u) (he:a.tmps.getD f undef=v) (hR:Rr (.returned (.tuple #[u,v])) w):bodyPost Tryz.prog fn Rr .ret a w:=by
 refine bodyPost_ret (v:= .tuple #[u,v]) ?_ hd hR;have a0:a.tmps[c]?.getD undef=u:=by simpa using hc
 have a1:a.tmps[f]?.getD undef=v:=by simpa using he
 simp[results,hf,a0,a1,go_sem]
theorem Bu {fn:Func} {Rr:Ending→World→Prop} {a:Act} {w:World} {c r:Nat} {v0 v1 v2 v3 v4:Value} (hf:fn.results=#[.cell c 219]) (hd:a.defers=[]) (hc:a.tmps.getD c undef= .pointer (some ⟨r,0,none⟩))
  (h0:w.heap[r]?=some (.cells #[v0,v1,v2,v3,v4] 219)) (hR:Rr (.returned (.agg #[v0,v1,v2,v3,v4])) w):bodyPost Tryz.prog fn Rr .ret a w:=by
 have r0:=ce0 h0;have r1:=ce1 h0;have r2:=ce2 h0;have r3:=ce3 h0;have r4:=ce4 h0;refine bodyPost_ret (v:= .agg #[v0,v1,v2,v3,v4]) ?_ hd hR;have a0:a.tmps[c]?.getD undef= .pointer (some ⟨r,0,none⟩):=by simpa using hc
 simp[results,hf,a0,go_sem,r0,r1,r2,r3,r4]
def ek (x:XIt):Value:= .agg #[.int .i64 x.place,.int .u8 x.op.toNat,.int .u8 x.cls.toNat,.int .i64 x.num,.slice x.pa x.pn x.pc]
end
end Go.Proofs.YtpfkkmacakjmbaaGreatDoor
