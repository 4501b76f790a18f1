import Derived.Test.YtpfkkmacakjmbaaGreatDoorP23
import Derived.Test.YtpfkkmacakjmbaaGreatDoorP28
set_option maxRecDepth 100000
set_option maxHeartbeats 6400000
set_option linter.unusedSimpArgs false
set_option linter.unusedVariables false
namespace Go.Proofs.YtpfkkmacakjmbaaGreatDoor
section
open Go Go.RowKit Sp
attribute [local go_sem ↓] Go.wp_at_zero Go.wp_at_succ
def xN:V→Int
 | .i n=>n
 |_=>0
def xO:V→Int
 | .o k=>k+1
 |_=>0
def bn (v:V):Value:= .agg #[.int .i32 (xN v),.int .i64 (xO v)]
def iy (v:V):List Value:=[.int .i32 (xN v),.int .i64 (xO v)]
def aE (l:List V):List Value:=l.flatMap iy
theorem dv (l:List V):(aE l).length=l.length*2:=by
 induction l with
 |nil=>rfl
 |cons v l ih=>simp[aE,iy]at ih⊢;omega
theorem dK {l:List V} {j k:Nat} {v:V} (h:l[j]?=some v) (hk:k<2):(aE l)[j*2+k]?=(iy v)[k]?:=el iy 2 (fun _=>rfl) l j k v h hk
theorem nR (l:List V) (j:Nat) (u:V):aE (l.set j u)=((aE l).set (j*2) (.int .i32 (xN u))).set (j*2+1) (.int .i64 (xO u)):=by
 induction l generalizing j with
 |nil=>simp[aE]
 |cons v l ih=>
  cases j with
  |zero=>simp[aE,iy]
  |succ j=>
   have:=ih j;simp only[aE]at this;simp[aE,iy,Nat.succ_mul,this]
theorem AE (t:UInt8):xN (d8 t)=0∧xO (d8 t)=0:=by unfold d8;split<;>exact⟨rfl,rfl⟩
def bI (e:Nat):Int:=if e=5 then 1 else if e=6 then 2 else if e=7 then 3 else if e=8 then 4 else if e=9 then 5 else if e=10 then 6 else 0
theorem m7 (b:Bool) (w:World):
  Calls Tryz.prog 235 #[.bool b] w fun en w'=>en= .returned (bn (if b=true then .i 1 else .i 0))∧But (fun _=>False) w w':=by
 cases b
 ·go_in
  go_wp2_with fail;exact bodyPost_ret (v:=bn (.i 0)) (by simp[results,Tryz.results235,go_sem,bn,xN,xO]) rfl ⟨rfl,But.alloc _ _ _⟩
 ·go_in
  go_wp2_with fail;exact bodyPost_ret (v:=bn (.i 1)) (by simp[results,Tryz.results235,go_sem,bn,xN,xO]) rfl ⟨rfl,But.alloc _ _ _⟩
def jJ (op:Nat) (a b:Int):Value:=if op=47∧b=0 then .tuple #[bn .z,.int .i64 3]else .tuple #[bn (.i (if op=47 then w32 (Int.tdiv a b)else sG op a b)),.int .i64 0]
theorem eA {fn:Func} {Rr:Ending→World→Prop} {a:Act} {w:World} {c f r:Nat} {K N e:Int} (hf:fn.results=#[.cell c 168,.tmp f]) (hd:a.defers=[]) (hc:a.tmps.getD c undef= .pointer (some ⟨r,0,none⟩)) (he:a.tmps.getD f undef= .int .i64 e)
  (h0:w.heap[r]?=some (.cells #[.int .i32 K,.int .i64 N] 168)) (hR:Rr (.returned (.tuple #[.agg #[.int .i32 K,.int .i64 N],.int .i64 e])) w):bodyPost Tryz.prog fn Rr .ret a w:=by
 have r0:=ce0 h0;have r1:=ce1 h0;refine bodyPost_ret (v:= .tuple #[.agg #[.int .i32 K,.int .i64 N],.int .i64 e]) ?_ hd hR;have a0:a.tmps[c]?.getD undef= .pointer (some ⟨r,0,none⟩):=by simpa using hc
 have a1:a.tmps[f]?.getD undef= .int .i64 e:=by simpa using he
 simp[results,hf,a0,a1,go_sem,r0,r1]
def dz (w:World) (r:Nat):Prop:= ∃K N:Int,w.heap[r]?=some (.cells #[.int .i32 K,.int .i64 N] 168)
theorem dz.but {F:Nat→Prop} {w w':World} {r:Nat} (h:dz w r) (hb:But F w w') (hf: ¬F r):dz w' r:=by
 obtain⟨K,N,h⟩:=h;exact⟨K,N,(hb.block r (ae h) hf).trans h⟩
theorem dz.parts {w:World} {r:Nat} (h:dz w r): ∃K N:Int,w.cell? ⟨r,0,none⟩=some (.int .i32 K)∧w.cell? ⟨r,1,none⟩=some (.int .i64 N)∧w.frozen? ⟨r,0,none⟩=false∧w.frozen? ⟨r,1,none⟩=false∧r<w.heap.size:=by
 obtain⟨K,N,h⟩:=h;exact⟨K,N,by rw[cell_of_row w r 0 _ _ (0,0) h];rfl,by rw[cell_of_row w r 1 _ _ (0,0) h];rfl,frozen_of_row w r 0 _ _ h,frozen_of_row w r 1 _ _ h,ae h⟩
theorem dz.put {w:World} {r:Nat} (h:dz w r) (K N:Int):((w.setCell ⟨r,0,none⟩ (.int .i32 K)).setCell ⟨r,1,none⟩ (.int .i64 N)).heap[r]?=some (.cells #[.int .i32 K,.int .i64 N] 168):=by
 obtain⟨K',N',h⟩:=h;exact heap_setCell_same _ r 1 _ _ _ (heap_setCell_same _ r 0 _ _ _ h)
theorem vQ (op:Nat) (hop:op=43∨op=45∨op=42∨op=60∨op=61∨op=47) (a b:Int) (a1: -2147483648≤a) (a2:a<2147483648) (b1: -2147483648≤b) (b2:b<2147483648) (w:World):
  Calls Tryz.prog 234 #[.int .u8 op,.int .i32 a,.int .i32 b] w fun en w'=>en= .returned (jJ op a b)∧But (fun _=>False) w w':=by
 rcases hop with rfl|rfl|rfl|rfl|rfl|rfl
 ·go_in
  go_wp2_with fail;exact eA Tryz.results234 rfl rfl rfl (CB rfl _) ⟨rfl,But.alloc _ _ _⟩
 ·go_in
  go_wp2_with fail;exact eA Tryz.results234 rfl rfl rfl (CB rfl _) ⟨rfl,But.alloc _ _ _⟩
 ·go_in
  go_wp2_with fail;exact eA Tryz.results234 rfl rfl rfl (CB rfl _) ⟨rfl,But.alloc _ _ _⟩
 ·rw[show jJ 60 a b= .tuple #[bn (if decide (a<b)=true then .i 1 else .i 0),.int .i64 0]from by unfold jJ sG;by_cases h:a<b<;>simp[h]];obtain⟨u,hu⟩: ∃u,(if decide (a<b)=true then V.i 1 else V.i 0)=u:=⟨_,rfl⟩;have HT:=hid (fun w=>m7 (decide (a<b)) w);rw[hu]at HT⊢;clear hu
  go_in
  go_wp2_with fail;refine(HT.out _).mono ?_;rintro en w1 ⟨rfl,a0⟩;simp only[bn];have a3:dz w1 w.heap.size:=dz.but ⟨0,0,heap_alloc_new w _⟩ a0 (fun h=>h);have a4:But (fun _=>False) w w1:=(But.alloc _ _ _).trans a0;obtain⟨K9,N9,r0,r1,f0,f1,a5⟩:=a3.parts;clear a0 HT;go_wp2_with fail;exact eA Tryz.results234 rfl rfl rfl (a3.put _ _) ⟨rfl,a4.next (gE _ _ _ _) (fun k hk e=>by have e:k=w.heap.size:=e;omega)⟩
 ·rw[show jJ 61 a b= .tuple #[bn (if decide (a=b)=true then .i 1 else .i 0),.int .i64 0]from by unfold jJ sG;by_cases h:a=b<;>simp[h]];obtain⟨u,hu⟩: ∃u,(if decide (a=b)=true then V.i 1 else V.i 0)=u:=⟨_,rfl⟩;have HT:=hid (fun w=>m7 (decide (a=b)) w);rw[hu]at HT⊢;clear hu
  go_in
  go_wp2_with fail;refine(HT.out _).mono ?_;rintro en w1 ⟨rfl,a0⟩;simp only[bn];have a3:dz w1 w.heap.size:=dz.but ⟨0,0,heap_alloc_new w _⟩ a0 (fun h=>h);have a4:But (fun _=>False) w w1:=(But.alloc _ _ _).trans a0;obtain⟨K9,N9,r0,r1,f0,f1,a5⟩:=a3.parts;clear a0 HT;go_wp2_with fail;exact eA Tryz.results234 rfl rfl rfl (a3.put _ _) ⟨rfl,a4.next (gE _ _ _ _) (fun k hk e=>by have e:k=w.heap.size:=e;omega)⟩
 ·by_cases h0:b=0
  ·subst h0;rw[show jJ 47 a 0= .tuple #[.agg #[.int .i32 0,.int .i64 0],.int .i64 3]from rfl]
   go_in
   go_wp2_with fail;exact eA Tryz.results234 rfl rfl rfl (CB rfl _) ⟨rfl,But.alloc _ _ _⟩
  ·rw[show jJ 47 a b= .tuple #[.agg #[.int .i32 (wrap32 (Int.tdiv a b)),.int .i64 0],.int .i64 0]from by unfold jJ;rw[if_neg (by omega)];rfl];have a6:(b==0)=false:=by simpa using h0
   go_in
   go_wp2_with fail;exact eA Tryz.results234 rfl rfl rfl (CB rfl _) ⟨rfl,But.alloc _ _ _⟩
end
section
open Go Go.RowKit Sp
def XwC (w:World) (b tx:Nat) (inp:ByteArray) (r:Int) (vo vb:Value) (cn:Int):Prop:=
 w.heap[b]?=some (.cells #[.pointer (some ⟨tx,0,none⟩),.string inp,.int .i64 r,vo,vb,.int .i64 cn] 211)
section
variable {w:World} {b tx:Nat} {inp:ByteArray} {r:Int} {vo vb:Value} {cn:Int}
theorem XwC.lt (h:XwC w b tx inp r vo vb cn):b<w.heap.size:=ae h
theorem XwC.c3 (h:XwC w b tx inp r vo vb cn):w.cell? ⟨b,3,none⟩=some vo:=ce3 h
theorem XwC.fz (h:XwC w b tx inp r vo vb cn) (j:Nat):w.frozen? ⟨b,j,none⟩=false:=frozen_of_row w b j _ _ h
theorem XwC.but {F:Nat→Prop} {w':World} (h:XwC w b tx inp r vo vb cn) (hb:But F w w') (hf: ¬F b):XwC w' b tx inp r vo vb cn:=(hb.block b h.lt hf).trans h
theorem XwC.set3 (h:XwC w b tx inp r vo vb cn) (v:Value):XwC (w.setCell ⟨b,3,none⟩ v) b tx inp r v vb cn:=heap_setCell_same w b 3 _ _ _ h
end
def XoC (w:World) (g c:Nat) (v:Value) (sn:Int):Prop:=w.heap[g]?=some (.cells #[.int .u8 c,v,.int .i64 sn] 318)
def m8 (gs:List Nat):List Value:=gs.map fun g=> .pointer (some ⟨g,0,none⟩)
abbrev FrQ (P:Nat→Prop) (w0:World) (k:Nat):Prop:=w0.heap.size≤k∧ ¬P k
def zH (bw:Nat) (vo vb:Value) (gs:List Nat) (fv:List Value) (k:Nat):Prop:=
 k=bw∨vo.ownBlock=some k∨vb.ownBlock=some k∨k∈gs∨ ∃v∈fv,v.ownBlock=some k
structure WdQ (P:Nat→Prop) (w0 w:World) (bw tx:Nat) (inp:ByteArray) (s:Ev) (vo vb:Value) (gs:List Nat) (fv:List Value) (cn:Int) (sn:Nat→Int):Prop where
 old:But (fun _=>False) w0 w
 wd:XwC w bw tx inp (min s.read inp.size:Nat) vo vb cn
 out:w.ownsRow w0.heap.size 5 1 vo s.out.length (Lib.byteCells s.out)
 ob:w.ownsRow w0.heap.size 315 1 vb s.heap.length (m8 gs)
 lg:gs.length=s.heap.length
 lf:fv.length=s.heap.length
 obs: ∀(k:Nat) o g v,s.heap[k]?=some o→gs[k]?=some g→fv[k]?=some v→XoC w g (65+o.cls) v (sn k)∧w.ownsRow w0.heap.size 168 2 v o.fs.length (aE o.fs)
 nd: ∀(j k:Nat) g,gs[j]?=some g→gs[k]?=some g→j=k
 own: ∀k,zH bw vo vb gs fv k→w0.heap.size≤k∧ ¬P k
 pl: ∀k,P k→k<w.heap.size∧ ∀c fz,w.heap[k]?≠some (.cells c 5 fz)
 sf: ∀(j k:Nat) v v' g,fv[j]?=some v→fv[k]?=some v'→v.ownBlock=some g→v'.ownBlock=some g→j=k
 se:0≤cn∧ ∀k,0≤sn k∧sn k≤cn
theorem bO {w:World} {g k:Nat} {c c':Array Value} {t t':TypeId} {fr fr':Nat×Nat} (hk:w.heap[k]?=some (.cells c' t' fr')) (hg:w.heap[g]?=some (.cells c t fr)) (h:t≠t'):k≠g:=fun e=>by
 subst e;rw[hk]at hg;injection hg with hg;injection hg with _ h2;exact h h2.symm
section
variable {P:Nat→Prop} {w0 w w':World} {bw tx:Nat} {inp:ByteArray} {s:Ev} {vo vb:Value} {gs:List Nat} {fv:List Value} {cn:Int} {sn:Nat→Int}
theorem WdQ.k2 (h:WdQ P w0 w bw tx inp s vo vb gs fv cn sn):w0.heap.size≤bw∧ ¬P bw:=h.own bw (Or.inl rfl)
theorem WdQ.k4 (h:WdQ P w0 w bw tx inp s vo vb gs fv cn sn) {g:Nat} (hg:vo.ownBlock=some g):w0.heap.size≤g∧ ¬P g:=h.own g (Or.inr (Or.inl hg))
theorem WdQ.k5 (h:WdQ P w0 w bw tx inp s vo vb gs fv cn sn) {g:Nat} (hg:vb.ownBlock=some g):w0.heap.size≤g∧ ¬P g:=h.own g (Or.inr (Or.inr (Or.inl hg)))
theorem WdQ.k7 (h:WdQ P w0 w bw tx inp s vo vb gs fv cn sn) {g:Nat} (hg:g∈gs):w0.heap.size≤g∧ ¬P g:=h.own g (Or.inr (Or.inr (Or.inr (Or.inl hg))))
theorem WdQ.k8 (h:WdQ P w0 w bw tx inp s vo vb gs fv cn sn) {v:Value} {g:Nat} (hv:v∈fv) (hg:v.ownBlock=some g):w0.heap.size≤g∧ ¬P g:=h.own g (Or.inr (Or.inr (Or.inr (Or.inr ⟨v,hv,hg⟩))))
theorem WdQ.obj (h:WdQ P w0 w bw tx inp s vo vb gs fv cn sn) {k:Nat} (hk:k<s.heap.length): ∃(o:Ob) (g:Nat) (v:Value),s.heap[k]?=some o∧gs[k]?=some g∧fv[k]?=some v∧XoC w g (65+o.cls) v (sn k)∧w.ownsRow w0.heap.size 168 2 v o.fs.length (aE o.fs):=by
 have h1:=List.getElem?_eq_getElem hk;have h2:=List.getElem?_eq_getElem (show k<gs.length by rw[h.lg];exact hk);have h3:=List.getElem?_eq_getElem (show k<fv.length by rw[h.lf];exact hk);exact⟨_,_,_,h1,h2,h3,(h.obs k _ _ _ h1 h2 h3).1,(h.obs k _ _ _ h1 h2 h3).2⟩
theorem WdQ.mg (h:WdQ P w0 w bw tx inp s vo vb gs fv cn sn) {g:Nat} (hg:g∈gs): ∃(c:Nat) (v:Value) (q:Int),XoC w g c v q:=by
 obtain⟨k,hk,rfl⟩:=List.getElem_of_mem hg;obtain⟨o,g',v,_,h2,_,h4,_⟩:=h.obj (by rw[←h.lg];exact hk);rw[List.getElem?_eq_getElem hk]at h2
 cases h2
 exact⟨_,_,_,h4⟩
theorem WdQ.mv (h:WdQ P w0 w bw tx inp s vo vb gs fv cn sn) {v:Value} (hv:v∈fv): ∃(n:Nat) (xs:List Value),w.ownsRow w0.heap.size 168 2 v n xs:=by
 obtain⟨k,hk,rfl⟩:=List.getElem_of_mem hv;obtain⟨o,g',v,_,_,h3,_,h5⟩:=h.obj (by rw[←h.lf];exact hk);rw[List.getElem?_eq_getElem hk]at h3
 cases h3
 exact⟨_,_,h5⟩
theorem WdQ.lt (h:WdQ P w0 w bw tx inp s vo vb gs fv cn sn) {k:Nat} (hk:zH bw vo vb gs fv k):k<w.heap.size:=by
 rcases hk with rfl|hk|hk|hk| ⟨v,hv,hk⟩
 ·exact h.wd.lt
 ·exact aS h.out k hk
 ·exact aS h.ob k hk
 ·obtain⟨c,v,q,ho⟩:=h.mg hk;exact ae ho
 ·obtain⟨n,xs,ho⟩:=h.mv hv;exact aS ho k hk
theorem WdQ.but {F:Nat→Prop} (h:WdQ P w0 w bw tx inp s vo vb gs fv cn sn) (hB:But F w w') (h0: ∀k,F k→w0.heap.size≤k) (h1: ∀k,zH bw vo vb gs fv k→ ¬F k) (hp: ∀k,P k→ ¬F k):WdQ P w0 w' bw tx inp s vo vb gs fv cn sn:=by
 refine⟨h.old.next hB (fun k hk hf=>by have:=h0 k hf;omega),h.wd.but hB (h1 _ (Or.inl rfl)),ah h.out hB (fun g hg=>h1 g (Or.inr (Or.inl hg))),ah h.ob hB (fun g hg=>h1 g (Or.inr (Or.inr (Or.inl hg)))),h.lg,h.lf,fun k o g v a b c=> ?_,h.nd,h.own,fun k hk=> ?_,h.sf,h.se⟩
 ·obtain⟨x,y⟩:=h.obs k o g v a b c;exact⟨(hB.block g (ae x) (h1 g (Or.inr (Or.inr (Or.inr (Or.inl (List.mem_of_getElem? b))))))).trans x,ah y hB (fun q hq=>h1 q (Or.inr (Or.inr (Or.inr (Or.inr ⟨v,List.mem_of_getElem? c,hq⟩)))))⟩
 ·obtain⟨a,b⟩:=h.pl k hk;refine⟨Nat.lt_of_lt_of_le a hB.size,fun c fz e=> ?_⟩;rw[hB.block k a (hp k hk)]at e;exact b c fz e
theorem WdQ.new (h:WdQ P w0 w bw tx inp s vo vb gs fv cn sn) (hB:But (fun _=>False) w w'):WdQ P w0 w' bw tx inp s vo vb gs fv cn sn:=h.but hB (fun _ h=>h.elim) (fun _ _ h=>h) (fun _ _ h=>h)
theorem WdQ.grow (h:WdQ P w0 w bw tx inp s vo vb gs fv cn sn) (hB:But (fun _=>False) w w') (ht: ∀k,w.heap.size≤k→k<w'.heap.size→ ∀c fz,w'.heap[k]?≠some (.cells c 5 fz)):WdQ (fun k=>P k∨(w.heap.size≤k∧k<w'.heap.size)) w0 w' bw tx inp s vo vb gs fv cn sn:=by
 have h1:=h.new hB;refine⟨h1.old,h1.wd,h1.out,h1.ob,h1.lg,h1.lf,h1.obs,h1.nd,fun k hk=>⟨(h1.own k hk).1,fun hp=> ?_⟩,fun k hk=> ?_,h1.sf,h1.se⟩
 ·rcases hp with hp|hp
  ·exact(h1.own k hk).2 hp
  ·have:=h.lt hk;omega
 ·rcases hk with hk|hk
  ·exact h1.pl k hk
  ·exact⟨hk.2,ht k hk.1 hk.2⟩
theorem WdQ.less {Q:Nat→Prop} (h:WdQ P w0 w bw tx inp s vo vb gs fv cn sn) (hs: ∀k,Q k→P k):WdQ Q w0 w bw tx inp s vo vb gs fv cn sn:=
 ⟨h.old,h.wd,h.out,h.ob,h.lg,h.lf,h.obs,h.nd,fun k hk=>⟨(h.own k hk).1,fun hp=>(h.own k hk).2 (hs k hp)⟩,fun k hk=>h.pl k (hs k hk),h.sf,h.se⟩
theorem WdQ.left (h:WdQ P w0 w bw tx inp s vo vb gs fv cn sn) (n:Nat):WdQ P w0 w bw tx inp {s with left:=n} vo vb gs fv cn sn:=
 ⟨h.old,h.wd,h.out,h.ob,h.lg,h.lf,h.obs,h.nd,h.own,h.pl,h.sf,h.se⟩
theorem vR {w:World} {base n g j:Nat} {v:Value} {l:List V} (u:V) (h:w.ownsRow base 168 2 v n (aE l)) (hg:v.ownBlock=some g):
  ((w.setCell ⟨g,j*2,none⟩ (.int .i32 (xN u))).setCell ⟨g,j*2+1,none⟩ (.int .i64 (xO u))).ownsRow base 168 2 v n (aE (l.set j u)):=by
 have a0:=h.1;rcases h.2 with⟨rfl,_⟩ | ⟨g',cap,cur,rfl,hb,hh,a1,a2,a3,a4⟩
 ·cases hg
 ·simp[Value.ownBlock]at hg;subst hg;refine⟨by rw[←a0,dv,dv];simp,Or.inr ⟨g',cap,(cur.setIfInBounds (j*2) (.int .i32 (xN u))).setIfInBounds (j*2+1) (.int .i64 (xO u)),rfl,hb,?_,a1,a2,by simpa using a3,?_⟩⟩
  ·exact heap_setCell_same _ g' _ _ _ _ (heap_setCell_same _ g' _ _ _ _ hh)
  ·rw[nR,←a4];simp[List.take_set]
theorem WdQ.tmp {F:Nat→Prop} (h:WdQ P w0 w bw tx inp s vo vb gs fv cn sn) (hB:But F w w') (hF: ∀k,F k→P k∧w0.heap.size≤k) (ht: ∀k,F k→ ∀c fz,w'.heap[k]?≠some (.cells c 5 fz)):WdQ P w0 w' bw tx inp s vo vb gs fv cn sn:=by
 have h1: ∀k,zH bw vo vb gs fv k→ ¬F k:=fun k hk hf=>(h.own k hk).2 (hF k hf).1
 have a:=(h.less (Q:=fun _=>False) (fun _ h=>h.elim)).but hB (fun k hf=>(hF k hf).2) h1 (fun _ h=>h.elim);refine⟨a.old,a.wd,a.out,a.ob,a.lg,a.lf,a.obs,a.nd,h.own,fun k hk=> ?_,a.sf,a.se⟩;obtain⟨x,y⟩:=h.pl k hk;refine⟨Nat.lt_of_lt_of_le x hB.size,fun c fz e=> ?_⟩
 by_cases hf:F k
 ·exact ht k hf c fz e
 ·rw[hB.block k x hf]at e;exact y c fz e
end
def XwB (w:World) (b tx:Nat) (inp:ByteArray) (r:Int) (vo vb:Value):Prop:=
 w.heap[b]?=some (.cells #[.pointer (some ⟨tx,0,none⟩),.string inp,.int .i64 r,vo,vb,.int .i64 0] 211)
section
variable {w:World} {b tx:Nat} {inp:ByteArray} {r:Int} {vo vb:Value}
theorem XwB.lt (h:XwB w b tx inp r vo vb):b<w.heap.size:=ae h
theorem XwB.c3 (h:XwB w b tx inp r vo vb):w.cell? ⟨b,3,none⟩=some vo:=ce3 h
theorem XwB.but {F:Nat→Prop} {w':World} (h:XwB w b tx inp r vo vb) (hb:But F w w') (hf: ¬F b):XwB w' b tx inp r vo vb:=(hb.block b h.lt hf).trans h
end
def XeB (w:World) (b tx bw:Nat) (f:Int):Prop:=w.heap[b]?=some (.cells #[.pointer (some ⟨tx,0,none⟩),.pointer (some ⟨bw,0,none⟩),.int .i64 f] 164)
section
variable {w:World} {b tx bw:Nat} {f:Int}
theorem XeB.lt (h:XeB w b tx bw f):b<w.heap.size:=ae h
theorem XeB.c0 (h:XeB w b tx bw f):w.cell? ⟨b,0,none⟩=some (.pointer (some ⟨tx,0,none⟩)):=ce0 h
theorem XeB.c1 (h:XeB w b tx bw f):w.cell? ⟨b,1,none⟩=some (.pointer (some ⟨bw,0,none⟩)):=ce1 h
theorem XeB.c2 (h:XeB w b tx bw f):w.cell? ⟨b,2,none⟩=some (.int .i64 f):=ce2 h
theorem XeB.fz (h:XeB w b tx bw f) (j:Nat):w.frozen? ⟨b,j,none⟩=false:=frozen_of_row w b j _ _ h
theorem XeB.but {F:Nat→Prop} {w':World} (h:XeB w b tx bw f) (hb:But F w w') (hf: ¬F b):XeB w' b tx bw f:=(hb.block b h.lt hf).trans h
theorem XeB.set2 (h:XeB w b tx bw f) (n:Int):XeB (w.setCell ⟨b,2,none⟩ (.int .i64 n)) b tx bw n:=heap_setCell_same w b 2 _ _ _ h
end
def XoB (w:World) (g c:Nat) (v:Value):Prop:=w.heap[g]?=some (.cells #[.int .u8 c,v,.int .i64 0] 318)
def yj (be bw bl:Nat) (vo vb lv:Value) (gs:List Nat) (fv:List Value) (k:Nat):Prop:=
 k=be∨k=bw∨k=bl∨vo.ownBlock=some k∨vb.ownBlock=some k∨lv.ownBlock=some k∨k∈gs∨ ∃v∈fv,v.ownBlock=some k
structure StQ (P:Nat→Prop) (w0 w:World) (be bw tx:Nat) (inp:ByteArray) (s:Ev) (bl:Nat) (lv:Value) (l:List V) (vo vb:Value) (gs:List Nat) (fv:List Value):Prop where
 old:But (fun _=>False) w0 w
 ev:XeB w be tx bw s.left
 wd:XwB w bw tx inp (min s.read inp.size:Nat) vo vb
 out:w.ownsRow w0.heap.size 5 1 vo s.out.length (Lib.byteCells s.out)
 ob:w.ownsRow w0.heap.size 315 1 vb s.heap.length (m8 gs)
 lg:gs.length=s.heap.length
 lf:fv.length=s.heap.length
 obs: ∀(k:Nat) o g v,s.heap[k]?=some o→gs[k]?=some g→fv[k]?=some v→XoB w g (65+o.cls) v∧w.ownsRow w0.heap.size 168 2 v o.fs.length (aE o.fs)
 nd: ∀(j k:Nat) g,gs[j]?=some g→gs[k]?=some g→j=k
 lb:w.heap[bl]?=some (.cells #[lv] 280)
 lo:w.ownsRow w0.heap.size 168 2 lv l.length (aE l)
 own: ∀k,yj be bw bl vo vb lv gs fv k→w0.heap.size≤k∧ ¬P k
 pl: ∀k,P k→k<w.heap.size∧ ∀c fz,w.heap[k]?≠some (.cells c 5 fz)
 sl: ∀v∈fv,∀g,v.ownBlock=some g→lv.ownBlock≠some g
 sf: ∀(j k:Nat) v v' g,fv[j]?=some v→fv[k]?=some v'→v.ownBlock=some g→v'.ownBlock=some g→j=k
section
variable {P:Nat→Prop} {w0 w w':World} {be bw tx bl:Nat} {inp:ByteArray} {s:Ev} {lv vo vb:Value} {l:List V} {gs:List Nat} {fv:List Value}
theorem StQ.k1 (h:StQ P w0 w be bw tx inp s bl lv l vo vb gs fv):w0.heap.size≤be∧ ¬P be:=h.own be (Or.inl rfl)
theorem StQ.k6 (h:StQ P w0 w be bw tx inp s bl lv l vo vb gs fv) {g:Nat} (hg:lv.ownBlock=some g):w0.heap.size≤g∧ ¬P g:=h.own g (Or.inr (Or.inr (Or.inr (Or.inr (Or.inr (Or.inl hg))))))
theorem StQ.obj (h:StQ P w0 w be bw tx inp s bl lv l vo vb gs fv) {k:Nat} (hk:k<s.heap.length): ∃(o:Ob) (g:Nat) (v:Value),s.heap[k]?=some o∧gs[k]?=some g∧fv[k]?=some v∧XoB w g (65+o.cls) v∧w.ownsRow w0.heap.size 168 2 v o.fs.length (aE o.fs):=by
 have h1:=List.getElem?_eq_getElem hk;have h2:=List.getElem?_eq_getElem (show k<gs.length by rw[h.lg];exact hk);have h3:=List.getElem?_eq_getElem (show k<fv.length by rw[h.lf];exact hk);exact⟨_,_,_,h1,h2,h3,(h.obs k _ _ _ h1 h2 h3).1,(h.obs k _ _ _ h1 h2 h3).2⟩
theorem StQ.mg (h:StQ P w0 w be bw tx inp s bl lv l vo vb gs fv) {g:Nat} (hg:g∈gs): ∃(c:Nat) (v:Value),XoB w g c v:=by
 obtain⟨k,hk,rfl⟩:=List.getElem_of_mem hg;obtain⟨o,g',v,_,h2,_,h4,_⟩:=h.obj (by rw[←h.lg];exact hk);rw[List.getElem?_eq_getElem hk]at h2
 cases h2
 exact⟨_,_,h4⟩
theorem StQ.mv (h:StQ P w0 w be bw tx inp s bl lv l vo vb gs fv) {v:Value} (hv:v∈fv): ∃(n:Nat) (xs:List Value),w.ownsRow w0.heap.size 168 2 v n xs:=by
 obtain⟨k,hk,rfl⟩:=List.getElem_of_mem hv;obtain⟨o,g',v,_,_,h3,_,h5⟩:=h.obj (by rw[←h.lf];exact hk);rw[List.getElem?_eq_getElem hk]at h3
 cases h3
 exact⟨_,_,h5⟩
theorem StQ.lt (h:StQ P w0 w be bw tx inp s bl lv l vo vb gs fv) {k:Nat} (hk:yj be bw bl vo vb lv gs fv k):k<w.heap.size:=by
 rcases hk with rfl|rfl|rfl|hk|hk|hk|hk| ⟨v,hv,hk⟩
 ·exact h.ev.lt
 ·exact h.wd.lt
 ·exact ae h.lb
 ·exact aS h.out k hk
 ·exact aS h.ob k hk
 ·exact aS h.lo k hk
 ·obtain⟨c,v,ho⟩:=h.mg hk;exact ae ho
 ·obtain⟨n,xs,ho⟩:=h.mv hv;exact aS ho k hk
theorem StQ.but {F:Nat→Prop} (h:StQ P w0 w be bw tx inp s bl lv l vo vb gs fv) (hB:But F w w') (h0: ∀k,F k→w0.heap.size≤k) (h1: ∀k,yj be bw bl vo vb lv gs fv k→ ¬F k) (hp: ∀k,P k→ ¬F k):StQ P w0 w' be bw tx inp s bl lv l vo vb gs fv:=by
 refine⟨h.old.next hB (fun k hk hf=>by have:=h0 k hf;omega),h.ev.but hB (h1 _ (Or.inl rfl)),h.wd.but hB (h1 _ (Or.inr (Or.inl rfl))),ah h.out hB (fun g hg=>h1 g (Or.inr (Or.inr (Or.inr (Or.inl hg))))),ah h.ob hB (fun g hg=>h1 g (Or.inr (Or.inr (Or.inr (Or.inr (Or.inl hg)))))),h.lg,h.lf,fun k o g v a b c=> ?_,h.nd,(hB.block bl (ae h.lb) (h1 _ (Or.inr (Or.inr (Or.inl rfl))))).trans h.lb,ah h.lo hB (fun g hg=>h1 g (Or.inr (Or.inr (Or.inr (Or.inr (Or.inr (Or.inl hg))))))),h.own,fun k hk=> ?_,h.sl,h.sf⟩
 ·obtain⟨x,y⟩:=h.obs k o g v a b c;exact⟨(hB.block g (ae x) (h1 g (Or.inr (Or.inr (Or.inr (Or.inr (Or.inr (Or.inr (Or.inl (List.mem_of_getElem? b)))))))))).trans x,ah y hB (fun q hq=>h1 q (Or.inr (Or.inr (Or.inr (Or.inr (Or.inr (Or.inr (Or.inr ⟨v,List.mem_of_getElem? c,hq⟩))))))))⟩
 ·obtain⟨a,b⟩:=h.pl k hk;refine⟨Nat.lt_of_lt_of_le a hB.size,fun c fz e=> ?_⟩;rw[hB.block k a (hp k hk)]at e;exact b c fz e
theorem StQ.new (h:StQ P w0 w be bw tx inp s bl lv l vo vb gs fv) (hB:But (fun _=>False) w w'):StQ P w0 w' be bw tx inp s bl lv l vo vb gs fv:=h.but hB (fun _ h=>h.elim) (fun _ _ h=>h) (fun _ _ h=>h)
theorem StQ.grow (h:StQ P w0 w be bw tx inp s bl lv l vo vb gs fv) (hB:But (fun _=>False) w w') (ht: ∀k,w.heap.size≤k→k<w'.heap.size→ ∀c fz,w'.heap[k]?≠some (.cells c 5 fz)):StQ (fun k=>P k∨(w.heap.size≤k∧k<w'.heap.size)) w0 w' be bw tx inp s bl lv l vo vb gs fv:=by
 have h1:=h.new hB;refine⟨h1.old,h1.ev,h1.wd,h1.out,h1.ob,h1.lg,h1.lf,h1.obs,h1.nd,h1.lb,h1.lo,fun k hk=>⟨(h1.own k hk).1,fun hp=> ?_⟩,fun k hk=> ?_,h1.sl,h1.sf⟩
 ·rcases hp with hp|hp
  ·exact(h1.own k hk).2 hp
  ·have:=h.lt hk;omega
 ·rcases hk with hk|hk
  ·exact h1.pl k hk
  ·exact⟨hk.2,ht k hk.1 hk.2⟩
theorem StQ.less {Q:Nat→Prop} (h:StQ P w0 w be bw tx inp s bl lv l vo vb gs fv) (hs: ∀k,Q k→P k):StQ Q w0 w be bw tx inp s bl lv l vo vb gs fv:=
 ⟨h.old,h.ev,h.wd,h.out,h.ob,h.lg,h.lf,h.obs,h.nd,h.lb,h.lo,fun k hk=>⟨(h.own k hk).1,fun hp=>(h.own k hk).2 (hs k hp)⟩,fun k hk=>h.pl k (hs k hk),h.sl,h.sf⟩
structure Ba (P:Nat→Prop) (w0 w':World) (be bw tx:Nat) (inp:ByteArray) (s:Ev) (bl:Nat) (lv:Value) (l:List V) (vo vb:Value) (gs:List Nat) (fv:List Value) (t:TypeId):Prop where
 old:But (fun _=>False) w0 w'
 ev:t≠164→XeB w' be tx bw s.left
 wd:t≠211→XwB w' bw tx inp (min s.read inp.size:Nat) vo vb
 out:t≠5→w'.ownsRow w0.heap.size 5 1 vo s.out.length (Lib.byteCells s.out)
 ob:t≠315→w'.ownsRow w0.heap.size 315 1 vb s.heap.length (m8 gs)
 obj:t≠318→ ∀(k:Nat) o g v,s.heap[k]?=some o→gs[k]?=some g→fv[k]?=some v→XoB w' g (65+o.cls) v
 fld:t≠168→ ∀(k:Nat) o g v,s.heap[k]?=some o→gs[k]?=some g→fv[k]?=some v→w'.ownsRow w0.heap.size 168 2 v o.fs.length (aE o.fs)
 lb:t≠280→w'.heap[bl]?=some (.cells #[lv] 280)
 lo:t≠168→w'.ownsRow w0.heap.size 168 2 lv l.length (aE l)
 pl: ∀k,P k→k<w'.heap.size∧ ∀c fz,w'.heap[k]?≠some (.cells c 5 fz)
theorem StQ.stand (h:StQ P w0 w be bw tx inp s bl lv l vo vb gs fv) {g:Nat} {c:Array Value} {t:TypeId} {fr:Nat×Nat} (hg:w.heap[g]?=some (.cells c t fr)) (hg0:w0.heap.size≤g) (hgp: ¬P g) (hB:But (· =g) w w'):Ba P w0 w' be bw tx inp s bl lv l vo vb gs fv t:=by
 refine⟨h.old.next hB (fun k hk e=>by have e:k=g:=e;omega),fun ht=>h.ev.but hB (bO h.ev hg ht),fun ht=>h.wd.but hB (bO h.wd hg ht),fun ht=>ah h.out hB (fun k hk e=>aN h.out hg (Ne.symm ht) (e▸hk)),fun ht=>ah h.ob hB (fun k hk e=>aN h.ob hg (Ne.symm ht) (e▸hk)),fun ht k o q v a b d=> ?_,fun ht k o q v a b d=> ?_,fun ht=>(hB.block bl (ae h.lb) (bO h.lb hg ht)).trans h.lb,fun ht=>ah h.lo hB (fun k hk e=>aN h.lo hg (Ne.symm ht) (e▸hk)),fun k hk=> ?_⟩
 ·have x:=(h.obs k o q v a b d).1;exact(hB.block q (ae x) (bO x hg ht)).trans x
 ·have y:=(h.obs k o q v a b d).2;exact ah y hB (fun j hj e=>aN y hg (Ne.symm ht) (e▸hj))
 ·obtain⟨a,b⟩:=h.pl k hk;refine⟨Nat.lt_of_lt_of_le a hB.size,fun c fz e=> ?_⟩;rw[hB.block k a (fun e=>hgp (e▸hk))]at e;exact b c fz e
theorem StQ.fuel (h:StQ P w0 w be bw tx inp s bl lv l vo vb gs fv) (n:Nat):StQ P w0 (w.setCell ⟨be,2,none⟩ (.int .i64 n)) be bw tx inp {s with left:=n} bl lv l vo vb gs fv:=by
 have a:=h.stand h.ev h.k1.1 h.k1.2 (But.setB w be 2 (.int .i64 n));exact⟨a.old,h.ev.set2 _,a.wd (by decide),a.out (by decide),a.ob (by decide),h.lg,h.lf,fun k o g v x y z=>⟨a.obj (by decide) k o g v x y z,a.fld (by decide) k o g v x y z⟩,h.nd,a.lb (by decide),a.lo (by decide),h.own,a.pl,h.sl,h.sf⟩
theorem StQ.setL (h:StQ P w0 w be bw tx inp s bl lv l vo vb gs fv) {g:Nat} (hg:lv.ownBlock=some g) (j:Nat) (u:V):StQ P w0 ((w.setCell ⟨g,j*2,none⟩ (.int .i32 (xN u))).setCell ⟨g,j*2+1,none⟩ (.int .i64 (xO u))) be bw tx inp s bl lv (l.set j u) vo vb gs fv:=by
 have hB:But (· =g) w ((w.setCell ⟨g,j*2,none⟩ (.int .i32 (xN u))).setCell ⟨g,j*2+1,none⟩ (.int .i64 (xO u))):=(But.setB _ _ _ _).trans (But.setB _ _ _ _);obtain⟨cur,a0⟩:=ek h.lo hg;have a:=h.stand a0 (h.k6 hg).1 (h.k6 hg).2 hB;refine⟨a.old,a.ev (by decide),a.wd (by decide),a.out (by decide),a.ob (by decide),h.lg,h.lf,fun k o q v x y z=>⟨a.obj (by decide) k o q v x y z,ah (h.obs k o q v x y z).2 hB (fun i hi e=>h.sl v (List.mem_of_getElem? z) i hi (e▸hg))⟩,h.nd,a.lb (by decide),?_,h.own,a.pl,h.sl,h.sf⟩;rw[List.length_set];exact vR u h.lo hg
theorem StQ.tmp {F:Nat→Prop} (h:StQ P w0 w be bw tx inp s bl lv l vo vb gs fv) (hB:But F w w') (hF: ∀k,F k→P k∧w0.heap.size≤k) (ht: ∀k,F k→ ∀c fz,w'.heap[k]?≠some (.cells c 5 fz)):StQ P w0 w' be bw tx inp s bl lv l vo vb gs fv:=by
 have h1: ∀k,yj be bw bl vo vb lv gs fv k→ ¬F k:=fun k hk hf=>(h.own k hk).2 (hF k hf).1
 have a:=(h.less (Q:=fun _=>False) (fun _ h=>h.elim)).but hB (fun k hf=>(hF k hf).2) h1 (fun _ h=>h.elim);refine⟨a.old,a.ev,a.wd,a.out,a.ob,a.lg,a.lf,a.obs,a.nd,a.lb,a.lo,h.own,fun k hk=> ?_,a.sl,a.sf⟩;obtain⟨x,y⟩:=h.pl k hk;refine⟨Nat.lt_of_lt_of_le x hB.size,fun c fz e=> ?_⟩
 by_cases hf:F k
 ·exact ht k hf c fz e
 ·rw[hB.block k x hf]at e;exact y c fz e
end
end
section
open Go Go.RowKit Sp
attribute [local go_sem ↓] Go.wp_at_zero Go.wp_at_succ
theorem Cx {fn:Func} {Rr:Ending→World→Prop} {a:Act} {w:World} {c r:Nat} {K N:Int} (hf:fn.results=#[.cell c 168]) (hd:a.defers=[]) (hc:a.tmps.getD c undef= .pointer (some ⟨r,0,none⟩))
  (h0:w.heap[r]?=some (.cells #[.int .i32 K,.int .i64 N] 168)) (hR:Rr (.returned (.agg #[.int .i32 K,.int .i64 N])) w):bodyPost Tryz.prog fn Rr .ret a w:=by
 have r0:=ce0 h0;have r1:=ce1 h0;refine bodyPost_ret (v:= .agg #[.int .i32 K,.int .i64 N]) ?_ hd hR;have a0:a.tmps[c]?.getD undef= .pointer (some ⟨r,0,none⟩):=by simpa using hc
 simp[results,hf,a0,go_sem,r0,r1]
section
variable {P:Nat→Prop} {w0 w:World} {be bw tx bl:Nat} {inp:ByteArray} {s:Ev} {lv vo vb:Value} {l:List V} {gs:List Nat} {fv:List Value}
theorem zI (h:StQ P w0 w be bw tx inp s bl lv l vo vb gs fv) (j:Nat) (u:V) (hu:l[j]?=some u):
  Calls Tryz.prog 196 #[.pointer (some ⟨bl,0,none⟩),.int .i64 j] w fun en w'=>en= .returned (bn u)∧But (fun _=>False) w w':=by
 have hj:=(List.getElem?_eq_some_iff.1 hu).1;obtain⟨al,capl,rfl⟩:=aq h.lo;obtain⟨g,rfl,a2,a3,a0⟩:=aD h.lo (by omega);have q0:w.cell? ⟨g,j*2,none⟩=some (.int .i32 (xN u)):=a0 _ _ (dK (k:=0) hu (by omega));have q1:w.cell? ⟨g,j*2+1,none⟩=some (.int .i64 (xO u)):=a0 _ _ (dK (k:=1) hu (by omega));have hb:=h.lb;have b0:=ce0 hb;have a1:=ae hb;have a5: ¬((l.length:Int)≤(j:Int)):=by omega
 have a6:((j:Int))<(l.length:Int):=by omega
 have a4: ¬((j:Int)<0):=by omega
 clear a0 hu hb;generalize l.length=nl at*
 go_in
 go_wp2_with fail;exact Cx Tryz.results196 rfl rfl (CB rfl _) ⟨rfl,But.alloc _ _ _⟩
theorem zJ (h:StQ P w0 w be bw tx inp s bl lv l vo vb gs fv) (j:Nat) (u:V) (hj:j<l.length):
  Calls Tryz.prog 194 #[.pointer (some ⟨bl,0,none⟩),.int .i64 j,bn u] w fun en w'=>en= .returned (.tuple #[])∧But (fun k=>w0.heap.size≤k∧ ¬P k) w w'∧StQ P w0 w' be bw tx inp s bl lv (l.set j u) vo vb gs fv:=by
 unfold bn;obtain⟨al,capl,rfl⟩:=aq h.lo;obtain⟨g,rfl,a5,b2,a0⟩:=aD h.lo (by omega);obtain⟨u',hu⟩: ∃u',l[j]?=some u':=⟨_,List.getElem?_eq_getElem hj⟩;have q0:w.cell? ⟨g,j*2,none⟩=some (.int .i32 (xN u')):=a0 _ _ (dK (k:=0) hu (by omega));have q1:w.cell? ⟨g,j*2+1,none⟩=some (.int .i64 (xO u')):=a0 _ _ (dK (k:=1) hu (by omega));obtain⟨cur,a1⟩:=ek h.lo (g:=g) rfl;have z0:=frozen_of_row w g (j*2) _ _ a1;have z1:=frozen_of_row w g (j*2+1) _ _ a1;have hb:=h.lb;have b0:=ce0 hb;have a8:=ae hb;have a7:=(h.k6 (g:=g) rfl);have b4:((j:Int))<(l.length:Int):=by omega
 have b3:0≤(j:Int):=by omega
 clear a0 hu hb a1;generalize l.length=nl at*
 go_in
 go_wp2_with fail;have a4:But (fun _=>False) w (w.alloc (.cells #[.int .i32 (xN u),.int .i64 (xO u)] 168)):=But.alloc _ _ _;have a3:=heap_alloc_new w (.cells #[.int .i32 (xN u),.int .i64 (xO u)] 168);revert a4 a3;generalize (w.alloc (.cells #[.int .i32 (xN u),.int .i64 (xO u)] 168))=W;intro a4 a3;have a6:But (fun _=>False) W W.drew:=But.drew _ _;have y0:=ce0 a3;have y1:=ce1 a3;have b1:=a4.kc b0 a8;have m1:=ae a3;have m2:bl<W.heap.size:=by omega
 have a2:=a4.trans a6;have p0:=a2.kc q0 a5;have p1:=a2.kc q1 a5;have p2:=a2.kz z0 a5;have p3:=a2.kz z1 a5;have HP:=hid (And.intro p0 (And.intro p1 (And.intro p2 p3)));clear p0 p1 p2 p3 q0 q1 z0 z1 b0;refine aB (But (fun _=>False) W) 7 (by kernel_rfl) ?_
 iterate 7 (refine aG (v:=?_) rfl (by kernel_rfl) (fun _ _ _ h=>h) rfl a6 ?_ ?_;rotate_left;(focus (intro wS h;have q0:=(h.kc b1 m2);have q1:=(h.kc y0 m1);have q2:=(h.kc y1 m1);clear h;go_simp;try rfl));dsimp only[Act.put];try simp only[aK])
 obtain⟨p0,p1,p2,p3⟩:=HP.out;have HS:=hid (fun X (hX:But (fun _=>False) w X)=>(h.new hX).setL (g:=g) rfl j u);clear y0 y1 b1 a6 HP;generalize W.drew=wd at*;refine ag rfl (by kernel_rfl) ?_;intro KS hKS;go_simp;refine hKS.out _ _ nofun ?_;clear hKS KS;refine aF rfl (by kernel_rfl) ?_;go_end0;exact⟨rfl,(a2.mono (fun _ _ h=>h.elim)).trans ((But.setCell wd (a:=⟨g,j*2,none⟩) (F:=fun k=>w0.heap.size≤k∧ ¬P k) a7 _).trans (But.setCell _ (a:=⟨g,j*2+1,none⟩) a7 _)),HS.out wd a2⟩
end
theorem rV:(Tryz.prog.info? 168).map (fun i=>(i.zero,i.size,i.bytes))=some (some (.agg #[.int .i32 0,.int .i64 0]),2,16):=by kernel_rfl
def fT (n:Nat):List Value:=(List.replicate n [Value.int .i32 0,.int .i64 0]).flatten
theorem yk (n:Nat):madeCells #[.int .i32 0,.int .i64 0] (n*2)=(fT n).toArray:=by
 apply Array.ext
 ·rw[size_madeCells];simp[fT]
 ·intro k h1 h2;rw[size_madeCells]at h1;have hk:k<n*2:=by simpa using h1
  have key: ∀(n k:Nat),k<n*2→(fT n)[k]?=some (if k % 2=0 then Value.int .i32 0 else .int .i64 0):=by
   intro n
   induction n with
   |zero=>intro k h;omega
   |succ n ih=>
    intro k h
    match k,h with
    |0,_=>simp[fT,List.replicate_succ]
    |1,_=>simp[fT,List.replicate_succ]
    |k+2,h=>
     have:=ih k (by omega);simp only[fT,List.replicate_succ,List.flatten_cons,List.cons_append,List.nil_append,List.getElem?_cons_succ]at this⊢;rw[this];simp[Nat.add_mod]
  have:=key n k hk;have a0:(fT n)[k]?=some ((fT n).toArray[k]):=by simp
  rw[a0]at this;have e:=Option.some.inj this;rw[e];rcases Nat.mod_two_eq_zero_or_one k with hm|hm<;>simp[madeCells,hm]
theorem yl (n:Nat) (hn:n≤1000) (w:World):(Instr.makeSlice 213 (.int .i64 (n:Int)) (.int .i64 (n:Int))).run Tryz.prog w= .ok (.slice (some ⟨w.heap.size,0,none⟩) n n) (w.alloc (.cells (fT n).toArray 168)):=by
 have a0:=rV
 cases hi:Tryz.prog.info? 168 with
 |none=>rw[hi]at a0;cases a0
 |some i=>
  rw[hi]at a0;simp only[Option.map_some,Option.some.injEq,Prod.mk.injEq]at a0;obtain⟨hz,hs,hb⟩:=a0;have:=run_make (P:=Tryz.prog) w 213 168 i _ (by kernel_rfl) hi hz .i64 .i64 n n (by omega) (by omega) (by rw[hb];omega) (by omega);rw[this,hs];simp only[Int.toNat_natCast,Value.cells];rw[yk]
theorem tF (ts:List UInt8):fT ts.length=aE (ts.map d8):=by
 induction ts with
 |nil=>rfl
 |cons t ts ih=>
  obtain⟨h1,h2⟩:=AE t;simp only[fT,aE]at ih;simp[fT,List.replicate_succ,aE,iy,h1,h2,ih]
theorem ym {w:World} {g base:Nat} {ts:List UInt8} (hb:base≤g) (hg:w.heap[g]?=some (.cells (fT ts.length).toArray 168)) (hl:ts.length≤1000):w.ownsRow base 168 2 (.slice (some ⟨g,0,none⟩) ts.length ts.length) ts.length (aE (ts.map d8)):=by
 have hz:=tF ts;have hn:(fT ts.length).length=ts.length*2:=by rw[hz,dv];simp
 refine⟨by rw[dv];simp,Or.inr ⟨g,ts.length,(fT ts.length).toArray,rfl,hb,hg,Nat.le_refl _,by unfold maxLen;omega,by simpa using hn,?_⟩⟩;rw[←hz];simp only;rw[List.take_of_length_le (by omega)]
section
variable {P:Nat→Prop} {w0 w:World} {be bw tx bl:Nat} {inp:ByteArray} {s:Ev} {lv vo vb:Value} {l:List V} {gs:List Nat} {fv:List Value}
theorem jK (b:UInt8) (m:Int) (a:UInt8) (lo:List UInt8) (al:Option Addr) (capl:Nat) (ai:Option Addr) (ni ci:Nat) (w:World) (hl:lo.length≤5):
  Calls Tryz.prog 138 #[.agg #[.int .u8 b.toNat,.int .i64 m,.int .u8 a.toNat,.slice al lo.length capl,.slice ai ni ci]] w fun en w'=> ∃(bl:Nat) (lv:Value),en= .returned (.pointer (some ⟨bl,0,none⟩))∧But (fun _=>False) w w'∧w'.heap[bl]?=some (.cells #[lv] 280)∧w'.ownsRow w.heap.size 168 2 lv lo.length (aE (lo.map d8))∧w.heap.size≤bl:=by
 have a0:=yl lo.length (by omega)
 go_in
 go_wp2_with fail;go_ret;refine⟨w.heap.size+1+1,.slice (some ⟨w.heap.size+1,0,none⟩) lo.length lo.length,rfl,((But.alloc _ _ _).trans (But.alloc _ _ _)).trans (But.alloc _ _ _),CB (by simp) _,?_,by omega⟩;refine ym (by omega) (((But.alloc (fun _=>False) _ _).block _ (by simp) (fun h=>h)).trans (CB (by simp) _)) (by omega)
end
theorem yn:(Tryz.prog.info? 5).map (fun i=>(i.zero,i.size,i.bytes))=some (some (.int .u8 0),1,1):=by kernel_rfl
theorem vS {w w':World} (h:But (fun _=>False) w w'):Below w.heap.size w w':=h.toBelow (Nat.le_refl _) (fun _ h=>h.elim)
section
variable {P:Nat→Prop} {w0 w w':World} {be bw tx bl:Nat} {inp:ByteArray} {s:Ev} {lv vo vb:Value} {l:List V} {gs:List Nat} {fv:List Value}
structure cH (w0 w w':World):Prop where
 bel:Below w0.heap.size w w'
 kept: ∀(k:Nat) o,w.heap[k]?=some o→(∀c fz,o≠ .cells c 5 fz)→w'.heap[k]?=some o
theorem cH.grown {X w2:World} {v:Value} {n:Nat} {xs:List Value} (h0:w0.heap.size≤X.heap.size) (ho:X.ownsRow w0.heap.size 5 1 v n xs) (hB:But (fun k=>v.ownBlock=some k) X w2):cH w0 X w2:=by
 refine⟨⟨hB.os,hB.tape,hB.output,hB.size,fun k hk=> ?_⟩,fun k o hk hn=> ?_⟩
 ·exact hB.block k (by omega) (fun hv=>by have:=aj ho k hv;omega)
 ·refine(hB.block k (ae hk) (fun hv=> ?_)).trans hk;obtain⟨cur,hc⟩:=ek ho hv;rw[hk]at hc
  cases hc
  exact hn _ _ rfl
end
def ReV (P:Nat→Prop) (w0 w:World) (be bw tx:Nat) (inp:ByteArray) (bl:Nat) (lv:Value) (r:R) (en:Ending) (w':World):Prop:=
 But (FrQ P w0) w w'∧ ∃vo vb gs fv,match r with
 | .ok u l s=>en= .returned (.tuple #[bn u,.int .i64 0])∧StQ P w0 w' be bw tx inp s bl lv l vo vb gs fv
 | .bad e o=>en= .returned (.tuple #[.agg #[.int .i32 0,.int .i64 0],.int .i64 (bI e)])∧ ∃s l,s.out=o∧StQ P w0 w' be bw tx inp s bl lv l vo vb gs fv
structure NB (w X:World):Prop where
 but:But (fun _=>False) w X
 nb: ∀k,w.heap.size≤k→k<X.heap.size→ ∀c fz,X.heap[k]?≠some (.cells c 5 fz)
theorem NB.refl (w:World):NB w w:=⟨But.refl _ _,fun k h1 h2=>by omega⟩
theorem NB.alloc {w X:World} {c:Array Value} {t:Nat} (h:NB w X) (ht:t≠5):NB w (X.alloc (.cells c t)):=by
 refine⟨h.but.trans (But.alloc _ _ _),fun k h1 h2 c' fz e=> ?_⟩;have h2:k<X.heap.size+1:=by simpa using h2
 rcases Nat.lt_or_ge k X.heap.size with h3|h3
 ·rw[(But.alloc (fun _=>False) X _).block k h3 (fun h=>h)]at e;exact h.nb k h1 h3 c' fz e
 ·have:k=X.heap.size:=by omega
  subst this;rw[heap_alloc_new]at e
  cases e
  exact ht rfl
theorem rW {w:World} {c1 c2 c3 c4:Array Value}:NB w ((((w.alloc (.cells c1 219)).alloc (.cells c2 168)).alloc (.cells c3 168)).alloc (.cells c4 168)):=
 ((((NB.refl w).alloc (by decide)).alloc (by decide)).alloc (by decide)).alloc (by decide)
section
variable {P:Nat→Prop} {w0 w:World} {be bw tx bl:Nat} {inp:ByteArray} {s:Ev} {lv vo vb:Value} {l:List V} {gs:List Nat} {fv:List Value}
abbrev PQ (P:Nat→Prop) (w X:World) (k:Nat):Prop:=P k∨(w.heap.size≤k∧k<X.heap.size)
theorem StQ.grown {X:World} (h:StQ P w0 w be bw tx inp s bl lv l vo vb gs fv) (hN:NB w X):StQ (PQ P w X) w0 X be bw tx inp s bl lv l vo vb gs fv:=h.grow hN.but hN.nb
theorem StQ.fin {X X':World} {r:Nat} (hN:NB w X) (h0:w0.heap.size≤w.heap.size) (hs:StQ (PQ P w X) w0 X' be bw tx inp s bl lv l vo vb gs fv) (hB:But (FrQ (PQ P w X) w0) X X') (hr:w.heap.size≤r) (hx:dz X r) (a b:Int):
  dz X' r∧But (FrQ P w0) w ((X'.setCell ⟨r,0,none⟩ (.int .i32 a)).setCell ⟨r,1,none⟩ (.int .i64 b))∧StQ P w0 ((X'.setCell ⟨r,0,none⟩ (.int .i32 a)).setCell ⟨r,1,none⟩ (.int .i64 b)) be bw tx inp s bl lv l vo vb gs fv:=by
 have a0:r<X.heap.size:=by obtain⟨K,N,hx⟩:=hx;exact ae hx
 have a1:dz X' r:=hx.but hB (fun hf=>hf.2 (Or.inr ⟨hr,a0⟩));refine⟨a1,?_,?_⟩
 ·refine((hN.but.mono (fun _ _ h=>h.elim)).trans (hB.mono (fun k hk hf=>⟨hf.1,fun hp=>hf.2 (Or.inl hp)⟩))).next (gE _ _ _ _) (fun k hk e=>by have e:k=r:=e;omega)
 ·refine(hs.tmp (F:=(· =r)) (gE _ _ _ _) (fun k e=>by have e:k=r:=e;subst e;exact⟨Or.inr ⟨hr,a0⟩,by omega⟩) (fun k e c fz he=> ?_)).less (fun k hp=>Or.inl hp);have e:k=r:=e;subst e;rw[a1.put]at he
  cases he
theorem StQ.fin0 {X X':World} {r:Nat} (h:StQ P w0 w be bw tx inp s bl lv l vo vb gs fv) (hN:NB w X) (hB:But (fun _=>False) X X') (hr:w.heap.size≤r) (hx:dz X r) (a b:Int):
  dz X' r∧But (FrQ P w0) w ((X'.setCell ⟨r,0,none⟩ (.int .i32 a)).setCell ⟨r,1,none⟩ (.int .i64 b))∧StQ P w0 ((X'.setCell ⟨r,0,none⟩ (.int .i32 a)).setCell ⟨r,1,none⟩ (.int .i64 b)) be bw tx inp s bl lv l vo vb gs fv:=
 StQ.fin hN h.old.size ((h.grown hN).new hB) (hB.mono (fun _ _ h=>h.elim)) hr hx a b
end
theorem dR {fn:Func} {Rr:Ending→World→Prop} {a:Act} {w:World} {c f:Nat} {u v:Value} (hf:fn.results=#[.tmp c,.tmp f]) (hd:a.defers=[]) (hc:a.tmps.getD c undef=u) (he:a.tmps.getD f undef=v) (hR:Rr (.returned (.tuple #[u,v])) w):bodyPost Tryz.prog fn Rr .ret a w:=by
 refine bodyPost_ret (v:= .tuple #[u,v]) ?_ hd hR;have a0:a.tmps[c]?.getD undef=u:=by simpa using hc
 have a1:a.tmps[f]?.getD undef=v:=by simpa using he
 simp[results,hf,a0,a1,go_sem]
theorem Bb {fn:Func} {Rr:Ending→World→Prop} {a:Act} {w:World} {c r:Nat} {v0 v1 v2 v3 v4:Value} (hf:fn.results=#[.cell c 219]) (hd:a.defers=[]) (hc:a.tmps.getD c undef= .pointer (some ⟨r,0,none⟩))
  (h0:w.heap[r]?=some (.cells #[v0,v1,v2,v3,v4] 219)) (hR:Rr (.returned (.agg #[v0,v1,v2,v3,v4])) w):bodyPost Tryz.prog fn Rr .ret a w:=by
 have r0:=ce0 h0;have r1:=ce1 h0;have r2:=ce2 h0;have r3:=ce3 h0;have r4:=ce4 h0;refine bodyPost_ret (v:= .agg #[v0,v1,v2,v3,v4]) ?_ hd hR;have a0:a.tmps[c]?.getD undef= .pointer (some ⟨r,0,none⟩):=by simpa using hc
 simp[results,hf,a0,go_sem,r0,r1,r2,r3,r4]
def cI (x:XIt):Value:= .agg #[.int .i64 x.place,.int .u8 x.op.toNat,.int .u8 x.cls.toNat,.int .i64 x.num,.slice x.pa x.pn x.pc]
theorem m9 (c:UInt8) (m:Nat) (an:UInt8) (vl vi:Value) (its:List XIt) (i:Nat) (x:XIt) (w:World) (hI:ItB w 0 vi its) (hx:its[i]?=some x) (hl:its.length≤1000):
  Calls Tryz.prog 152 #[.agg #[.int .u8 c.toNat,.int .i64 m,.int .u8 an.toNat,vl,vi],.int .i64 i] w fun en w'=>en= .returned (cI x)∧NB w w':=by
 have a6:=(List.getElem?_eq_some_iff.1 hx).1;unfold ItB at hI;obtain⟨ai,ci,rfl⟩:=aq hI;obtain⟨g,rfl,a1,a2,a0⟩:=aD hI (by omega);have q0:w.cell? ⟨g,i*5,none⟩=some _:=a0 _ _ (aL (k:=0) hx (by omega));have q1:w.cell? ⟨g,i*5+1,none⟩=some _:=a0 _ _ (aL (k:=1) hx (by omega));have q2:w.cell? ⟨g,i*5+2,none⟩=some _:=a0 _ _ (aL (k:=2) hx (by omega));have q3:w.cell? ⟨g,i*5+3,none⟩=some _:=a0 _ _ (aL (k:=3) hx (by omega));have q4:w.cell? ⟨g,i*5+4,none⟩=some _:=a0 _ _ (aL (k:=4) hx (by omega));have a3: ¬((i:Int)<0):=by omega
 have a4: ¬((its.length:Int)≤(i:Int)):=by omega
 have a5:(i:Int)<(its.length:Int):=by omega
 unfold cI;clear a0 hx hI;generalize its.length=ni at*
 go_in
 go_wp2_with fail;exact Bb Tryz.results152 rfl rfl (CB (by simp) _) ⟨rfl,((NB.refl w).alloc (by decide)).alloc (by decide)⟩
end
end Go.Proofs.YtpfkkmacakjmbaaGreatDoor
