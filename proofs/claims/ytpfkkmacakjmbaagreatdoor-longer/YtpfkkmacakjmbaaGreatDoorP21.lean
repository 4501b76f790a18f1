import Derived.Test.YtpfkkmacakjmbaaGreatDoorP13
import Derived.Test.YtpfkkmacakjmbaaGreatDoorP16
set_option maxRecDepth 100000
set_option maxHeartbeats 6400000
set_option linter.unusedSimpArgs false
set_option linter.unusedVariables false
namespace Go.Proofs.YtpfkkmacakjmbaaGreatDoor
section
open Go Go.RowKit Sp
attribute [local go_sem ↓] Go.wp_at_zero Go.wp_at_succ
def xN:V→Int
 | .i n=>n
 |_=>0
def xO:V→Int
 | .o k=>k+1
 |_=>0
def aG (v:V):Value:= .agg #[.int .i32 (xN v),.int .i64 (xO v)]
def io (v:V):List Value:=[.int .i32 (xN v),.int .i64 (xO v)]
def au (l:List V):List Value:=l.flatMap io
theorem dn (l:List V):(au l).length=l.length*2:=by
 induction l with
 |nil=>rfl
 |cons v l ih=>simp[au,io]at ih⊢;omega
theorem bq {l:List V} {j k:Nat} {v:V} (h:l[j]?=some v) (hk:k<2):(au l)[j*2+k]?=(io v)[k]?:=jY io 2 (fun _=>rfl) l j k v h hk
theorem oZ (l:List V) (j:Nat) (u:V):au (l.set j u)=((au l).set (j*2) (.int .i32 (xN u))).set (j*2+1) (.int .i64 (xO u)):=by
 induction l generalizing j with
 |nil=>simp[au]
 |cons v l ih=>
  cases j with
  |zero=>simp[au,io]
  |succ j=>
   have:=ih j;simp only[au]at this;simp[au,io,Nat.succ_mul,this]
theorem BE (t:UInt8):xN (cC t)=0∧xO (cC t)=0:=by unfold cC;split<;>exact⟨rfl,rfl⟩
def bK (e:Nat):Int:=if e=5 then 1 else if e=6 then 2 else if e=7 then 3 else if e=8 then 4 else if e=9 then 5 else if e=10 then 6 else 0
theorem iZ (b:Bool) (w:World):
  Calls Tryz.prog 235 #[.bool b] w fun en w'=>en= .returned (aG (if b=true then .i 1 else .i 0))∧But (fun _=>False) w w':=by
 cases b
 ·go_in
  go_wp2_with fail;exact bodyPost_ret (v:=aG (.i 0)) (by simp[results,Tryz.results235,go_sem,aG,xN,xO]) rfl ⟨rfl,But.alloc _ _ _⟩
 ·go_in
  go_wp2_with fail;exact bodyPost_ret (v:=aG (.i 1)) (by simp[results,Tryz.results235,go_sem,aG,xN,xO]) rfl ⟨rfl,But.alloc _ _ _⟩
def ku (op:Nat) (a b:Int):Value:=if op=47∧b=0 then .tuple #[aG .z,.int .i64 3]else .tuple #[aG (.i (if op=47 then w32 (Int.tdiv a b)else tK op a b)),.int .i64 0]
theorem cU {fn:Func} {Rr:Ending→World→Prop} {a:Act} {w:World} {c f r:Nat} {K N e:Int} (hf:fn.results=#[.cell c 168,.tmp f]) (hd:a.defers=[]) (hc:a.tmps.getD c undef= .pointer (some ⟨r,0,none⟩)) (he:a.tmps.getD f undef= .int .i64 e)
  (h0:w.heap[r]?=some (.cells #[.int .i32 K,.int .i64 N] 168)) (hR:Rr (.returned (.tuple #[.agg #[.int .i32 K,.int .i64 N],.int .i64 e])) w):bodyPost Tryz.prog fn Rr .ret a w:=by
 have r0:=ce0 h0;have r1:=ce1 h0;refine bodyPost_ret (v:= .tuple #[.agg #[.int .i32 K,.int .i64 N],.int .i64 e]) ?_ hd hR;have a0:a.tmps[c]?.getD undef= .pointer (some ⟨r,0,none⟩):=by simpa using hc
 have a1:a.tmps[f]?.getD undef= .int .i64 e:=by simpa using he
 simp[results,hf,a0,a1,go_sem,r0,r1]
def cP (w:World) (r:Nat):Prop:= ∃K N:Int,w.heap[r]?=some (.cells #[.int .i32 K,.int .i64 N] 168)
theorem cP.but {F:Nat→Prop} {w w':World} {r:Nat} (h:cP w r) (hb:But F w w') (hf: ¬F r):cP w' r:=by
 obtain⟨K,N,h⟩:=h;exact⟨K,N,(hb.block r (ae h) hf).trans h⟩
theorem cP.parts {w:World} {r:Nat} (h:cP w r): ∃K N:Int,w.cell? ⟨r,0,none⟩=some (.int .i32 K)∧w.cell? ⟨r,1,none⟩=some (.int .i64 N)∧w.frozen? ⟨r,0,none⟩=false∧w.frozen? ⟨r,1,none⟩=false∧r<w.heap.size:=by
 obtain⟨K,N,h⟩:=h;exact⟨K,N,by rw[cell_of_row w r 0 _ _ (0,0) h];rfl,by rw[cell_of_row w r 1 _ _ (0,0) h];rfl,frozen_of_row w r 0 _ _ h,frozen_of_row w r 1 _ _ h,ae h⟩
theorem cP.put {w:World} {r:Nat} (h:cP w r) (K N:Int):((w.setCell ⟨r,0,none⟩ (.int .i32 K)).setCell ⟨r,1,none⟩ (.int .i64 N)).heap[r]?=some (.cells #[.int .i32 K,.int .i64 N] 168):=by
 obtain⟨K',N',h⟩:=h;exact heap_setCell_same _ r 1 _ _ _ (heap_setCell_same _ r 0 _ _ _ h)
theorem xz (op:Nat) (hop:op=43∨op=45∨op=42∨op=60∨op=61∨op=47) (a b:Int) (a1: -2147483648≤a) (a2:a<2147483648) (b1: -2147483648≤b) (b2:b<2147483648) (w:World):
  Calls Tryz.prog 234 #[.int .u8 op,.int .i32 a,.int .i32 b] w fun en w'=>en= .returned (ku op a b)∧But (fun _=>False) w w':=by
 rcases hop with rfl|rfl|rfl|rfl|rfl|rfl
 ·go_in
  go_wp2_with fail;exact cU Tryz.results234 rfl rfl rfl (aq rfl _) ⟨rfl,But.alloc _ _ _⟩
 ·go_in
  go_wp2_with fail;exact cU Tryz.results234 rfl rfl rfl (aq rfl _) ⟨rfl,But.alloc _ _ _⟩
 ·go_in
  go_wp2_with fail;exact cU Tryz.results234 rfl rfl rfl (aq rfl _) ⟨rfl,But.alloc _ _ _⟩
 ·rw[show ku 60 a b= .tuple #[aG (if decide (a<b)=true then .i 1 else .i 0),.int .i64 0]from by unfold ku tK;by_cases h:a<b<;>simp[h]];obtain⟨u,hu⟩: ∃u,(if decide (a<b)=true then V.i 1 else V.i 0)=u:=⟨_,rfl⟩;have HT:=hid (fun w=>iZ (decide (a<b)) w);rw[hu]at HT⊢;clear hu
  go_in
  go_wp2_with fail;refine(HT.out _).mono ?_;rintro en w1 ⟨rfl,a0⟩;simp only[aG];have a3:cP w1 w.heap.size:=cP.but ⟨0,0,heap_alloc_new w _⟩ a0 (fun h=>h);have a4:But (fun _=>False) w w1:=(But.alloc _ _ _).trans a0;obtain⟨K9,N9,r0,r1,f0,f1,a5⟩:=a3.parts;clear a0 HT;go_wp2_with fail;exact cU Tryz.results234 rfl rfl rfl (a3.put _ _) ⟨rfl,a4.next (cS _ _ _ _) (fun k hk e=>by have e:k=w.heap.size:=e;omega)⟩
 ·rw[show ku 61 a b= .tuple #[aG (if decide (a=b)=true then .i 1 else .i 0),.int .i64 0]from by unfold ku tK;by_cases h:a=b<;>simp[h]];obtain⟨u,hu⟩: ∃u,(if decide (a=b)=true then V.i 1 else V.i 0)=u:=⟨_,rfl⟩;have HT:=hid (fun w=>iZ (decide (a=b)) w);rw[hu]at HT⊢;clear hu
  go_in
  go_wp2_with fail;refine(HT.out _).mono ?_;rintro en w1 ⟨rfl,a0⟩;simp only[aG];have a3:cP w1 w.heap.size:=cP.but ⟨0,0,heap_alloc_new w _⟩ a0 (fun h=>h);have a4:But (fun _=>False) w w1:=(But.alloc _ _ _).trans a0;obtain⟨K9,N9,r0,r1,f0,f1,a5⟩:=a3.parts;clear a0 HT;go_wp2_with fail;exact cU Tryz.results234 rfl rfl rfl (a3.put _ _) ⟨rfl,a4.next (cS _ _ _ _) (fun k hk e=>by have e:k=w.heap.size:=e;omega)⟩
 ·by_cases h0:b=0
  ·subst h0;rw[show ku 47 a 0= .tuple #[.agg #[.int .i32 0,.int .i64 0],.int .i64 3]from rfl]
   go_in
   go_wp2_with fail;exact cU Tryz.results234 rfl rfl rfl (aq rfl _) ⟨rfl,But.alloc _ _ _⟩
  ·rw[show ku 47 a b= .tuple #[.agg #[.int .i32 (wrap32 (Int.tdiv a b)),.int .i64 0],.int .i64 0]from by unfold ku;rw[if_neg (by omega)];rfl];have a6:(b==0)=false:=by simpa using h0
   go_in
   go_wp2_with fail;exact cU Tryz.results234 rfl rfl rfl (aq rfl _) ⟨rfl,But.alloc _ _ _⟩
end
section
open Go Go.RowKit Sp
def XwC (w:World) (b tx:Nat) (inp:ByteArray) (r:Int) (vo vb:Value) (cn:Int):Prop:=
 w.heap[b]?=some (.cells #[.pointer (some ⟨tx,0,none⟩),.string inp,.int .i64 r,vo,vb,.int .i64 cn] 211)
section
variable {w:World} {b tx:Nat} {inp:ByteArray} {r:Int} {vo vb:Value} {cn:Int}
theorem XwC.lt (h:XwC w b tx inp r vo vb cn):b<w.heap.size:=ae h
theorem XwC.c0 (h:XwC w b tx inp r vo vb cn):w.cell? ⟨b,0,none⟩=some (.pointer (some ⟨tx,0,none⟩)):=ce0 h
theorem XwC.c1 (h:XwC w b tx inp r vo vb cn):w.cell? ⟨b,1,none⟩=some (.string inp):=ce1 h
theorem XwC.c2 (h:XwC w b tx inp r vo vb cn):w.cell? ⟨b,2,none⟩=some (.int .i64 r):=ce2 h
theorem XwC.c3 (h:XwC w b tx inp r vo vb cn):w.cell? ⟨b,3,none⟩=some vo:=ce3 h
theorem XwC.c4 (h:XwC w b tx inp r vo vb cn):w.cell? ⟨b,4,none⟩=some vb:=ce4 h
theorem XwC.c5 (h:XwC w b tx inp r vo vb cn):w.cell? ⟨b,5,none⟩=some (.int .i64 cn):=ce5 h
theorem XwC.fz (h:XwC w b tx inp r vo vb cn) (j:Nat):w.frozen? ⟨b,j,none⟩=false:=frozen_of_row w b j _ _ h
theorem XwC.but {F:Nat→Prop} {w':World} (h:XwC w b tx inp r vo vb cn) (hb:But F w w') (hf: ¬F b):XwC w' b tx inp r vo vb cn:=(hb.block b h.lt hf).trans h
theorem XwC.set2 (h:XwC w b tx inp r vo vb cn) (n:Int):XwC (w.setCell ⟨b,2,none⟩ (.int .i64 n)) b tx inp n vo vb cn:=heap_setCell_same w b 2 _ _ _ h
theorem XwC.set3 (h:XwC w b tx inp r vo vb cn) (v:Value):XwC (w.setCell ⟨b,3,none⟩ v) b tx inp r v vb cn:=heap_setCell_same w b 3 _ _ _ h
theorem XwC.set4 (h:XwC w b tx inp r vo vb cn) (v:Value):XwC (w.setCell ⟨b,4,none⟩ v) b tx inp r vo v cn:=heap_setCell_same w b 4 _ _ _ h
theorem XwC.set5 (h:XwC w b tx inp r vo vb cn) (n:Int):XwC (w.setCell ⟨b,5,none⟩ (.int .i64 n)) b tx inp r vo vb n:=heap_setCell_same w b 5 _ _ _ h
end
def XoC (w:World) (g c:Nat) (v:Value) (sn:Int):Prop:=w.heap[g]?=some (.cells #[.int .u8 c,v,.int .i64 sn] 318)
def ep (gs:List Nat):List Value:=gs.map fun g=> .pointer (some ⟨g,0,none⟩)
abbrev FrQ (P:Nat→Prop) (w0:World) (k:Nat):Prop:=w0.heap.size≤k∧ ¬P k
def ov (bw:Nat) (vo vb:Value) (gs:List Nat) (fv:List Value) (k:Nat):Prop:=
 k=bw∨vo.ownBlock=some k∨vb.ownBlock=some k∨k∈gs∨ ∃v∈fv,v.ownBlock=some k
structure WdQ (P:Nat→Prop) (w0 w:World) (bw tx:Nat) (inp:ByteArray) (s:Ev) (vo vb:Value) (gs:List Nat) (fv:List Value) (cn:Int) (sn:Nat→Int):Prop where
 old:But (fun _=>False) w0 w
 wd:XwC w bw tx inp (min s.read inp.size:Nat) vo vb cn
 out:w.ownsRow w0.heap.size 5 1 vo s.out.length (Lib.byteCells s.out)
 ob:w.ownsRow w0.heap.size 315 1 vb s.heap.length (ep gs)
 lg:gs.length=s.heap.length
 lf:fv.length=s.heap.length
 obs: ∀(k:Nat) o g v,s.heap[k]?=some o→gs[k]?=some g→fv[k]?=some v→XoC w g (65+o.cls) v (sn k)∧w.ownsRow w0.heap.size 168 2 v o.fs.length (au o.fs)
 nd: ∀(j k:Nat) g,gs[j]?=some g→gs[k]?=some g→j=k
 own: ∀k,ov bw vo vb gs fv k→w0.heap.size≤k∧ ¬P k
 pl: ∀k,P k→k<w.heap.size∧ ∀c fz,w.heap[k]?≠some (.cells c 5 fz)
 sf: ∀(j k:Nat) v v' g,fv[j]?=some v→fv[k]?=some v'→v.ownBlock=some g→v'.ownBlock=some g→j=k
 se:0≤cn∧ ∀k,0≤sn k∧sn k≤cn
theorem bv {w:World} {g k:Nat} {c c':Array Value} {t t':TypeId} {fr fr':Nat×Nat} (hk:w.heap[k]?=some (.cells c' t' fr')) (hg:w.heap[g]?=some (.cells c t fr)) (h:t≠t'):k≠g:=fun e=>by
 subst e;rw[hk]at hg;injection hg with hg;injection hg with _ h2;exact h h2.symm
section
variable {P:Nat→Prop} {w0 w w':World} {bw tx:Nat} {inp:ByteArray} {s:Ev} {vo vb:Value} {gs:List Nat} {fv:List Value} {cn:Int} {sn:Nat→Int}
theorem WdQ.k2 (h:WdQ P w0 w bw tx inp s vo vb gs fv cn sn):w0.heap.size≤bw∧ ¬P bw:=h.own bw (Or.inl rfl)
theorem WdQ.k4 (h:WdQ P w0 w bw tx inp s vo vb gs fv cn sn) {g:Nat} (hg:vo.ownBlock=some g):w0.heap.size≤g∧ ¬P g:=h.own g (Or.inr (Or.inl hg))
theorem WdQ.k5 (h:WdQ P w0 w bw tx inp s vo vb gs fv cn sn) {g:Nat} (hg:vb.ownBlock=some g):w0.heap.size≤g∧ ¬P g:=h.own g (Or.inr (Or.inr (Or.inl hg)))
theorem WdQ.k7 (h:WdQ P w0 w bw tx inp s vo vb gs fv cn sn) {g:Nat} (hg:g∈gs):w0.heap.size≤g∧ ¬P g:=h.own g (Or.inr (Or.inr (Or.inr (Or.inl hg))))
theorem WdQ.k8 (h:WdQ P w0 w bw tx inp s vo vb gs fv cn sn) {v:Value} {g:Nat} (hv:v∈fv) (hg:v.ownBlock=some g):w0.heap.size≤g∧ ¬P g:=h.own g (Or.inr (Or.inr (Or.inr (Or.inr ⟨v,hv,hg⟩))))
theorem WdQ.obj (h:WdQ P w0 w bw tx inp s vo vb gs fv cn sn) {k:Nat} (hk:k<s.heap.length): ∃(o:Ob) (g:Nat) (v:Value),s.heap[k]?=some o∧gs[k]?=some g∧fv[k]?=some v∧XoC w g (65+o.cls) v (sn k)∧w.ownsRow w0.heap.size 168 2 v o.fs.length (au o.fs):=by
 have h1:=List.getElem?_eq_getElem hk;have h2:=List.getElem?_eq_getElem (show k<gs.length by rw[h.lg];exact hk);have h3:=List.getElem?_eq_getElem (show k<fv.length by rw[h.lf];exact hk);exact⟨_,_,_,h1,h2,h3,(h.obs k _ _ _ h1 h2 h3).1,(h.obs k _ _ _ h1 h2 h3).2⟩
theorem WdQ.mg (h:WdQ P w0 w bw tx inp s vo vb gs fv cn sn) {g:Nat} (hg:g∈gs): ∃(c:Nat) (v:Value) (q:Int),XoC w g c v q:=by
 obtain⟨k,hk,rfl⟩:=List.getElem_of_mem hg;obtain⟨o,g',v,_,h2,_,h4,_⟩:=h.obj (by rw[←h.lg];exact hk);rw[List.getElem?_eq_getElem hk]at h2
 cases h2
 exact⟨_,_,_,h4⟩
theorem WdQ.mv (h:WdQ P w0 w bw tx inp s vo vb gs fv cn sn) {v:Value} (hv:v∈fv): ∃(n:Nat) (xs:List Value),w.ownsRow w0.heap.size 168 2 v n xs:=by
 obtain⟨k,hk,rfl⟩:=List.getElem_of_mem hv;obtain⟨o,g',v,_,_,h3,_,h5⟩:=h.obj (by rw[←h.lf];exact hk);rw[List.getElem?_eq_getElem hk]at h3
 cases h3
 exact⟨_,_,h5⟩
theorem WdQ.lt (h:WdQ P w0 w bw tx inp s vo vb gs fv cn sn) {k:Nat} (hk:ov bw vo vb gs fv k):k<w.heap.size:=by
 rcases hk with rfl|hk|hk|hk| ⟨v,hv,hk⟩
 ·exact h.wd.lt
 ·exact aX h.out k hk
 ·exact aX h.ob k hk
 ·obtain⟨c,v,q,ho⟩:=h.mg hk;exact ae ho
 ·obtain⟨n,xs,ho⟩:=h.mv hv;exact aX ho k hk
theorem WdQ.but {F:Nat→Prop} (h:WdQ P w0 w bw tx inp s vo vb gs fv cn sn) (hB:But F w w') (h0: ∀k,F k→w0.heap.size≤k) (h1: ∀k,ov bw vo vb gs fv k→ ¬F k) (hp: ∀k,P k→ ¬F k):WdQ P w0 w' bw tx inp s vo vb gs fv cn sn:=by
 refine⟨h.old.next hB (fun k hk hf=>by have:=h0 k hf;omega),h.wd.but hB (h1 _ (Or.inl rfl)),ag h.out hB (fun g hg=>h1 g (Or.inr (Or.inl hg))),ag h.ob hB (fun g hg=>h1 g (Or.inr (Or.inr (Or.inl hg)))),h.lg,h.lf,fun k o g v a b c=> ?_,h.nd,h.own,fun k hk=> ?_,h.sf,h.se⟩
 ·obtain⟨x,y⟩:=h.obs k o g v a b c;exact⟨(hB.block g (ae x) (h1 g (Or.inr (Or.inr (Or.inr (Or.inl (List.mem_of_getElem? b))))))).trans x,ag y hB (fun q hq=>h1 q (Or.inr (Or.inr (Or.inr (Or.inr ⟨v,List.mem_of_getElem? c,hq⟩)))))⟩
 ·obtain⟨a,b⟩:=h.pl k hk;refine⟨Nat.lt_of_lt_of_le a hB.size,fun c fz e=> ?_⟩;rw[hB.block k a (hp k hk)]at e;exact b c fz e
theorem WdQ.new (h:WdQ P w0 w bw tx inp s vo vb gs fv cn sn) (hB:But (fun _=>False) w w'):WdQ P w0 w' bw tx inp s vo vb gs fv cn sn:=h.but hB (fun _ h=>h.elim) (fun _ _ h=>h) (fun _ _ h=>h)
theorem WdQ.grow (h:WdQ P w0 w bw tx inp s vo vb gs fv cn sn) (hB:But (fun _=>False) w w') (ht: ∀k,w.heap.size≤k→k<w'.heap.size→ ∀c fz,w'.heap[k]?≠some (.cells c 5 fz)):WdQ (fun k=>P k∨(w.heap.size≤k∧k<w'.heap.size)) w0 w' bw tx inp s vo vb gs fv cn sn:=by
 have h1:=h.new hB;refine⟨h1.old,h1.wd,h1.out,h1.ob,h1.lg,h1.lf,h1.obs,h1.nd,fun k hk=>⟨(h1.own k hk).1,fun hp=> ?_⟩,fun k hk=> ?_,h1.sf,h1.se⟩
 ·rcases hp with hp|hp
  ·exact(h1.own k hk).2 hp
  ·have:=h.lt hk;omega
 ·rcases hk with hk|hk
  ·exact h1.pl k hk
  ·exact⟨hk.2,ht k hk.1 hk.2⟩
theorem WdQ.less {Q:Nat→Prop} (h:WdQ P w0 w bw tx inp s vo vb gs fv cn sn) (hs: ∀k,Q k→P k):WdQ Q w0 w bw tx inp s vo vb gs fv cn sn:=
 ⟨h.old,h.wd,h.out,h.ob,h.lg,h.lf,h.obs,h.nd,fun k hk=>⟨(h.own k hk).1,fun hp=>(h.own k hk).2 (hs k hp)⟩,fun k hk=>h.pl k (hs k hk),h.sf,h.se⟩
theorem WdQ.add (h:WdQ P w0 w bw tx inp s vo vb gs fv cn sn) {Q:Nat→Prop} (hQ: ∀k,Q k→ ∃c t fz,w.heap[k]?=some (.cells c t fz)∧t≠5∧(t=168→ ∀v∈fv,v.ownBlock≠some k)∧t≠211∧t≠315∧t≠318):WdQ (fun k=>P k∨Q k) w0 w bw tx inp s vo vb gs fv cn sn:=by
 refine⟨h.old,h.wd,h.out,h.ob,h.lg,h.lf,h.obs,h.nd,fun j hj=>⟨(h.own j hj).1,fun hp=> ?_⟩,fun j hj=> ?_,h.sf,h.se⟩
 ·rcases hp with hp|hq
  ·exact(h.own j hj).2 hp
  ·obtain⟨c,t,fz,hk,t1,t2,t3,t4,t5⟩:=hQ j hq;rcases hj with rfl|hj|hj|hj| ⟨v,hv,hj⟩
   ·exact bv h.wd hk t3 rfl
   ·exact aC h.out hk (Ne.symm t1) hj
   ·exact aC h.ob hk (Ne.symm t4) hj
   ·obtain⟨c',v',q,ho⟩:=h.mg hj;exact bv ho hk t5 rfl
   ·by_cases e:t=168
    ·exact t2 e v hv hj
    ·obtain⟨n',xs,ho⟩:=h.mv hv;exact aC ho hk (Ne.symm e) hj
 ·rcases hj with hj|hj
  ·exact h.pl j hj
  ·obtain⟨c,t,fz,hk,t1,_⟩:=hQ j hj;exact⟨ae hk,fun c' fz' e=>by rw[hk]at e;injection e with e;injection e with _ h2;exact t1 h2⟩
structure BF (P:Nat→Prop) (w0 w':World) (bw tx:Nat) (inp:ByteArray) (s:Ev) (vo vb:Value) (gs:List Nat) (fv:List Value) (cn:Int) (sn:Nat→Int) (t:TypeId):Prop where
 old:But (fun _=>False) w0 w'
 wd:t≠211→XwC w' bw tx inp (min s.read inp.size:Nat) vo vb cn
 out:t≠5→w'.ownsRow w0.heap.size 5 1 vo s.out.length (Lib.byteCells s.out)
 ob:t≠315→w'.ownsRow w0.heap.size 315 1 vb s.heap.length (ep gs)
 obj:t≠318→ ∀(k:Nat) o g v,s.heap[k]?=some o→gs[k]?=some g→fv[k]?=some v→XoC w' g (65+o.cls) v (sn k)
 fld:t≠168→ ∀(k:Nat) o g v,s.heap[k]?=some o→gs[k]?=some g→fv[k]?=some v→w'.ownsRow w0.heap.size 168 2 v o.fs.length (au o.fs)
 pl: ∀k,P k→k<w'.heap.size∧ ∀c fz,w'.heap[k]?≠some (.cells c 5 fz)
theorem WdQ.stand (h:WdQ P w0 w bw tx inp s vo vb gs fv cn sn) {g:Nat} {c:Array Value} {t:TypeId} {fr:Nat×Nat} (hg:w.heap[g]?=some (.cells c t fr)) (hg0:w0.heap.size≤g) (hgp: ¬P g) (hB:But (· =g) w w'):BF P w0 w' bw tx inp s vo vb gs fv cn sn t:=by
 refine⟨h.old.next hB (fun k hk e=>by have e:k=g:=e;omega),fun ht=>h.wd.but hB (bv h.wd hg ht),fun ht=>ag h.out hB (fun k hk e=>aC h.out hg (Ne.symm ht) (e▸hk)),fun ht=>ag h.ob hB (fun k hk e=>aC h.ob hg (Ne.symm ht) (e▸hk)),fun ht k o q v a b d=> ?_,fun ht k o q v a b d=> ?_,fun k hk=> ?_⟩
 ·have x:=(h.obs k o q v a b d).1;exact(hB.block q (ae x) (bv x hg ht)).trans x
 ·have y:=(h.obs k o q v a b d).2;exact ag y hB (fun j hj e=>aC y hg (Ne.symm ht) (e▸hj))
 ·obtain⟨a,b⟩:=h.pl k hk;refine⟨Nat.lt_of_lt_of_le a hB.size,fun c fz e=> ?_⟩;rw[hB.block k a (fun e=>hgp (e▸hk))]at e;exact b c fz e
theorem WdQ.left (h:WdQ P w0 w bw tx inp s vo vb gs fv cn sn) (n:Nat):WdQ P w0 w bw tx inp {s with left:=n} vo vb gs fv cn sn:=
 ⟨h.old,h.wd,h.out,h.ob,h.lg,h.lf,h.obs,h.nd,h.own,h.pl,h.sf,h.se⟩
theorem WdQ.readd (h:WdQ P w0 w bw tx inp s vo vb gs fv cn sn) {n:Nat} (hn:n=min (s.read+1) inp.size):WdQ P w0 (w.setCell ⟨bw,2,none⟩ (.int .i64 n)) bw tx inp {s with read:=s.read+1} vo vb gs fv cn sn:=by
 have a:=h.stand h.wd h.k2.1 h.k2.2 (But.setB w bw 2 (.int .i64 n));refine⟨a.old,?_,a.out (by decide),a.ob (by decide),h.lg,h.lf,fun k o g v x y z=>⟨a.obj (by decide) k o g v x y z,a.fld (by decide) k o g v x y z⟩,h.nd,h.own,a.pl,h.sf,h.se⟩;have:=h.wd.set2 (n:Int);rw[hn]at this⊢;exact this
theorem WdQ.unread (h:WdQ P w0 w bw tx inp s vo vb gs fv cn sn) (hn:inp.size≤s.read):WdQ P w0 w bw tx inp {s with read:=s.read+1} vo vb gs fv cn sn:=
 ⟨h.old,by have:=h.wd;rw[show min s.read inp.size=min (s.read+1) inp.size from by omega]at this;exact this,h.out,h.ob,h.lg,h.lf,h.obs,h.nd,h.own,h.pl,h.sf,h.se⟩
theorem WdQ.count (h:WdQ P w0 w bw tx inp s vo vb gs fv cn sn) (n:Int) (hn:cn≤n):WdQ P w0 (w.setCell ⟨bw,5,none⟩ (.int .i64 n)) bw tx inp s vo vb gs fv n sn:=by
 have a:=h.stand h.wd h.k2.1 h.k2.2 (But.setB w bw 5 (.int .i64 n));exact⟨a.old,h.wd.set5 n,a.out (by decide),a.ob (by decide),h.lg,h.lf,fun k o g v x y z=>⟨a.obj (by decide) k o g v x y z,a.fld (by decide) k o g v x y z⟩,h.nd,h.own,a.pl,h.sf,Int.le_trans h.se.1 hn,fun k=>⟨(h.se.2 k).1,Int.le_trans (h.se.2 k).2 hn⟩⟩
theorem l7 {w:World} {base n g j:Nat} {v:Value} {l:List V} (u:V) (h:w.ownsRow base 168 2 v n (au l)) (hg:v.ownBlock=some g):
  ((w.setCell ⟨g,j*2,none⟩ (.int .i32 (xN u))).setCell ⟨g,j*2+1,none⟩ (.int .i64 (xO u))).ownsRow base 168 2 v n (au (l.set j u)):=by
 have a0:=h.1;rcases h.2 with⟨rfl,_⟩ | ⟨g',cap,cur,rfl,hb,hh,a1,a2,a3,a4⟩
 ·cases hg
 ·simp[Value.ownBlock]at hg;subst hg;refine⟨by rw[←a0,dn,dn];simp,Or.inr ⟨g',cap,(cur.setIfInBounds (j*2) (.int .i32 (xN u))).setIfInBounds (j*2+1) (.int .i64 (xO u)),rfl,hb,?_,a1,a2,by simpa using a3,?_⟩⟩
  ·exact heap_setCell_same _ g' _ _ _ _ (heap_setCell_same _ g' _ _ _ _ hh)
  ·rw[oZ,←a4];simp[List.take_set]
theorem WdQ.setF (h:WdQ P w0 w bw tx inp s vo vb gs fv cn sn) {k g q:Nat} {o:Ob} {v:Value} (hk:s.heap[k]?=some o) (hq:gs[k]?=some q) (hv:fv[k]?=some v) (hg:v.ownBlock=some g) (j:Nat) (u:V):WdQ P w0 ((w.setCell ⟨g,j*2,none⟩ (.int .i32 (xN u))).setCell ⟨g,j*2+1,none⟩ (.int .i64 (xO u))) bw tx inp (s.put k j u) vo vb gs fv cn sn:=by
 have hB:But (· =g) w ((w.setCell ⟨g,j*2,none⟩ (.int .i32 (xN u))).setCell ⟨g,j*2+1,none⟩ (.int .i64 (xO u))):=(But.setB _ _ _ _).trans (But.setB _ _ _ _);have hr:=(h.obs k o q v hk hq hv).2;have hm:=List.mem_of_getElem? hv;obtain⟨cur,a2⟩:=cD hr hg;have a:=h.stand a2 (h.k8 hm hg).1 (h.k8 hm hg).2 hB;have e1:(s.put k j u).heap=s.heap.set k ⟨o.cls,o.fs.set j u⟩:=by simp[Ev.put,(Ev.at hk).1,(Ev.at hk).2]
 refine⟨a.old,a.wd (by decide),a.out (by decide),?_,by rw[e1];simpa using h.lg,by rw[e1];simpa using h.lf,?_,h.nd,h.own,a.pl,h.sf,h.se⟩
 ·rw[e1,List.length_set];exact a.ob (by decide)
 ·intro i o' q' v' hi a1 a0;rw[e1,List.getElem?_set]at hi
  split at hi
  ·rename_i he
   subst he;rw[hv]at a0;rw[hq]at a1
   cases a0
   cases a1
   split at hi
   ·cases hi
    refine⟨a.obj (by decide) k o q v hk hq hv,?_⟩;simp only[List.length_set];exact l7 u hr hg
   ·cases hi
  ·rename_i he
   exact⟨a.obj (by decide) i o' q' v' hi a1 a0,ag (h.obs i o' q' v' hi a1 a0).2 hB (fun i' hi' e=>he (h.sf k i v v' g hv a0 hg (e▸hi')))⟩
theorem WdQ.tmp {F:Nat→Prop} (h:WdQ P w0 w bw tx inp s vo vb gs fv cn sn) (hB:But F w w') (hF: ∀k,F k→P k∧w0.heap.size≤k) (ht: ∀k,F k→ ∀c fz,w'.heap[k]?≠some (.cells c 5 fz)):WdQ P w0 w' bw tx inp s vo vb gs fv cn sn:=by
 have h1: ∀k,ov bw vo vb gs fv k→ ¬F k:=fun k hk hf=>(h.own k hk).2 (hF k hf).1
 have a:=(h.less (Q:=fun _=>False) (fun _ h=>h.elim)).but hB (fun k hf=>(hF k hf).2) h1 (fun _ h=>h.elim);refine⟨a.old,a.wd,a.out,a.ob,a.lg,a.lf,a.obs,a.nd,h.own,fun k hk=> ?_,a.sf,a.se⟩;obtain⟨x,y⟩:=h.pl k hk;refine⟨Nat.lt_of_lt_of_le x hB.size,fun c fz e=> ?_⟩
 by_cases hf:F k
 ·exact ht k hf c fz e
 ·rw[hB.block k x hf]at e;exact y c fz e
end
def XwB (w:World) (b tx:Nat) (inp:ByteArray) (r:Int) (vo vb:Value):Prop:=
 w.heap[b]?=some (.cells #[.pointer (some ⟨tx,0,none⟩),.string inp,.int .i64 r,vo,vb,.int .i64 0] 211)
section
variable {w:World} {b tx:Nat} {inp:ByteArray} {r:Int} {vo vb:Value}
theorem XwB.lt (h:XwB w b tx inp r vo vb):b<w.heap.size:=ae h
theorem XwB.c3 (h:XwB w b tx inp r vo vb):w.cell? ⟨b,3,none⟩=some vo:=ce3 h
theorem XwB.but {F:Nat→Prop} {w':World} (h:XwB w b tx inp r vo vb) (hb:But F w w') (hf: ¬F b):XwB w' b tx inp r vo vb:=(hb.block b h.lt hf).trans h
end
def XeB (w:World) (b tx bw:Nat) (f:Int):Prop:=w.heap[b]?=some (.cells #[.pointer (some ⟨tx,0,none⟩),.pointer (some ⟨bw,0,none⟩),.int .i64 f] 164)
section
variable {w:World} {b tx bw:Nat} {f:Int}
theorem XeB.lt (h:XeB w b tx bw f):b<w.heap.size:=ae h
theorem XeB.c0 (h:XeB w b tx bw f):w.cell? ⟨b,0,none⟩=some (.pointer (some ⟨tx,0,none⟩)):=ce0 h
theorem XeB.c1 (h:XeB w b tx bw f):w.cell? ⟨b,1,none⟩=some (.pointer (some ⟨bw,0,none⟩)):=ce1 h
theorem XeB.c2 (h:XeB w b tx bw f):w.cell? ⟨b,2,none⟩=some (.int .i64 f):=ce2 h
theorem XeB.fz (h:XeB w b tx bw f) (j:Nat):w.frozen? ⟨b,j,none⟩=false:=frozen_of_row w b j _ _ h
theorem XeB.but {F:Nat→Prop} {w':World} (h:XeB w b tx bw f) (hb:But F w w') (hf: ¬F b):XeB w' b tx bw f:=(hb.block b h.lt hf).trans h
theorem XeB.set2 (h:XeB w b tx bw f) (n:Int):XeB (w.setCell ⟨b,2,none⟩ (.int .i64 n)) b tx bw n:=heap_setCell_same w b 2 _ _ _ h
end
def XoB (w:World) (g c:Nat) (v:Value):Prop:=w.heap[g]?=some (.cells #[.int .u8 c,v,.int .i64 0] 318)
def uC (be bw bl:Nat) (vo vb lv:Value) (gs:List Nat) (fv:List Value) (k:Nat):Prop:=
 k=be∨k=bw∨k=bl∨vo.ownBlock=some k∨vb.ownBlock=some k∨lv.ownBlock=some k∨k∈gs∨ ∃v∈fv,v.ownBlock=some k
structure StQ (P:Nat→Prop) (w0 w:World) (be bw tx:Nat) (inp:ByteArray) (s:Ev) (bl:Nat) (lv:Value) (l:List V) (vo vb:Value) (gs:List Nat) (fv:List Value):Prop where
 old:But (fun _=>False) w0 w
 ev:XeB w be tx bw s.left
 wd:XwB w bw tx inp (min s.read inp.size:Nat) vo vb
 out:w.ownsRow w0.heap.size 5 1 vo s.out.length (Lib.byteCells s.out)
 ob:w.ownsRow w0.heap.size 315 1 vb s.heap.length (ep gs)
 lg:gs.length=s.heap.length
 lf:fv.length=s.heap.length
 obs: ∀(k:Nat) o g v,s.heap[k]?=some o→gs[k]?=some g→fv[k]?=some v→XoB w g (65+o.cls) v∧w.ownsRow w0.heap.size 168 2 v o.fs.length (au o.fs)
 nd: ∀(j k:Nat) g,gs[j]?=some g→gs[k]?=some g→j=k
 lb:w.heap[bl]?=some (.cells #[lv] 280)
 lo:w.ownsRow w0.heap.size 168 2 lv l.length (au l)
 own: ∀k,uC be bw bl vo vb lv gs fv k→w0.heap.size≤k∧ ¬P k
 pl: ∀k,P k→k<w.heap.size∧ ∀c fz,w.heap[k]?≠some (.cells c 5 fz)
 sl: ∀v∈fv,∀g,v.ownBlock=some g→lv.ownBlock≠some g
 sf: ∀(j k:Nat) v v' g,fv[j]?=some v→fv[k]?=some v'→v.ownBlock=some g→v'.ownBlock=some g→j=k
section
variable {P:Nat→Prop} {w0 w w':World} {be bw tx bl:Nat} {inp:ByteArray} {s:Ev} {lv vo vb:Value} {l:List V} {gs:List Nat} {fv:List Value}
theorem StQ.k1 (h:StQ P w0 w be bw tx inp s bl lv l vo vb gs fv):w0.heap.size≤be∧ ¬P be:=h.own be (Or.inl rfl)
theorem StQ.k3 (h:StQ P w0 w be bw tx inp s bl lv l vo vb gs fv):w0.heap.size≤bl∧ ¬P bl:=h.own bl (Or.inr (Or.inr (Or.inl rfl)))
theorem StQ.k6 (h:StQ P w0 w be bw tx inp s bl lv l vo vb gs fv) {g:Nat} (hg:lv.ownBlock=some g):w0.heap.size≤g∧ ¬P g:=h.own g (Or.inr (Or.inr (Or.inr (Or.inr (Or.inr (Or.inl hg))))))
theorem StQ.k8 (h:StQ P w0 w be bw tx inp s bl lv l vo vb gs fv) {v:Value} {g:Nat} (hv:v∈fv) (hg:v.ownBlock=some g):w0.heap.size≤g∧ ¬P g:=h.own g (Or.inr (Or.inr (Or.inr (Or.inr (Or.inr (Or.inr (Or.inr ⟨v,hv,hg⟩)))))))
theorem StQ.obj (h:StQ P w0 w be bw tx inp s bl lv l vo vb gs fv) {k:Nat} (hk:k<s.heap.length): ∃(o:Ob) (g:Nat) (v:Value),s.heap[k]?=some o∧gs[k]?=some g∧fv[k]?=some v∧XoB w g (65+o.cls) v∧w.ownsRow w0.heap.size 168 2 v o.fs.length (au o.fs):=by
 have h1:=List.getElem?_eq_getElem hk;have h2:=List.getElem?_eq_getElem (show k<gs.length by rw[h.lg];exact hk);have h3:=List.getElem?_eq_getElem (show k<fv.length by rw[h.lf];exact hk);exact⟨_,_,_,h1,h2,h3,(h.obs k _ _ _ h1 h2 h3).1,(h.obs k _ _ _ h1 h2 h3).2⟩
theorem StQ.mg (h:StQ P w0 w be bw tx inp s bl lv l vo vb gs fv) {g:Nat} (hg:g∈gs): ∃(c:Nat) (v:Value),XoB w g c v:=by
 obtain⟨k,hk,rfl⟩:=List.getElem_of_mem hg;obtain⟨o,g',v,_,h2,_,h4,_⟩:=h.obj (by rw[←h.lg];exact hk);rw[List.getElem?_eq_getElem hk]at h2
 cases h2
 exact⟨_,_,h4⟩
theorem StQ.mv (h:StQ P w0 w be bw tx inp s bl lv l vo vb gs fv) {v:Value} (hv:v∈fv): ∃(n:Nat) (xs:List Value),w.ownsRow w0.heap.size 168 2 v n xs:=by
 obtain⟨k,hk,rfl⟩:=List.getElem_of_mem hv;obtain⟨o,g',v,_,_,h3,_,h5⟩:=h.obj (by rw[←h.lf];exact hk);rw[List.getElem?_eq_getElem hk]at h3
 cases h3
 exact⟨_,_,h5⟩
theorem StQ.lt (h:StQ P w0 w be bw tx inp s bl lv l vo vb gs fv) {k:Nat} (hk:uC be bw bl vo vb lv gs fv k):k<w.heap.size:=by
 rcases hk with rfl|rfl|rfl|hk|hk|hk|hk| ⟨v,hv,hk⟩
 ·exact h.ev.lt
 ·exact h.wd.lt
 ·exact ae h.lb
 ·exact aX h.out k hk
 ·exact aX h.ob k hk
 ·exact aX h.lo k hk
 ·obtain⟨c,v,ho⟩:=h.mg hk;exact ae ho
 ·obtain⟨n,xs,ho⟩:=h.mv hv;exact aX ho k hk
theorem StQ.but {F:Nat→Prop} (h:StQ P w0 w be bw tx inp s bl lv l vo vb gs fv) (hB:But F w w') (h0: ∀k,F k→w0.heap.size≤k) (h1: ∀k,uC be bw bl vo vb lv gs fv k→ ¬F k) (hp: ∀k,P k→ ¬F k):StQ P w0 w' be bw tx inp s bl lv l vo vb gs fv:=by
 refine⟨h.old.next hB (fun k hk hf=>by have:=h0 k hf;omega),h.ev.but hB (h1 _ (Or.inl rfl)),h.wd.but hB (h1 _ (Or.inr (Or.inl rfl))),ag h.out hB (fun g hg=>h1 g (Or.inr (Or.inr (Or.inr (Or.inl hg))))),ag h.ob hB (fun g hg=>h1 g (Or.inr (Or.inr (Or.inr (Or.inr (Or.inl hg)))))),h.lg,h.lf,fun k o g v a b c=> ?_,h.nd,(hB.block bl (ae h.lb) (h1 _ (Or.inr (Or.inr (Or.inl rfl))))).trans h.lb,ag h.lo hB (fun g hg=>h1 g (Or.inr (Or.inr (Or.inr (Or.inr (Or.inr (Or.inl hg))))))),h.own,fun k hk=> ?_,h.sl,h.sf⟩
 ·obtain⟨x,y⟩:=h.obs k o g v a b c;exact⟨(hB.block g (ae x) (h1 g (Or.inr (Or.inr (Or.inr (Or.inr (Or.inr (Or.inr (Or.inl (List.mem_of_getElem? b)))))))))).trans x,ag y hB (fun q hq=>h1 q (Or.inr (Or.inr (Or.inr (Or.inr (Or.inr (Or.inr (Or.inr ⟨v,List.mem_of_getElem? c,hq⟩))))))))⟩
 ·obtain⟨a,b⟩:=h.pl k hk;refine⟨Nat.lt_of_lt_of_le a hB.size,fun c fz e=> ?_⟩;rw[hB.block k a (hp k hk)]at e;exact b c fz e
theorem StQ.new (h:StQ P w0 w be bw tx inp s bl lv l vo vb gs fv) (hB:But (fun _=>False) w w'):StQ P w0 w' be bw tx inp s bl lv l vo vb gs fv:=h.but hB (fun _ h=>h.elim) (fun _ _ h=>h) (fun _ _ h=>h)
theorem StQ.grow (h:StQ P w0 w be bw tx inp s bl lv l vo vb gs fv) (hB:But (fun _=>False) w w') (ht: ∀k,w.heap.size≤k→k<w'.heap.size→ ∀c fz,w'.heap[k]?≠some (.cells c 5 fz)):StQ (fun k=>P k∨(w.heap.size≤k∧k<w'.heap.size)) w0 w' be bw tx inp s bl lv l vo vb gs fv:=by
 have h1:=h.new hB;refine⟨h1.old,h1.ev,h1.wd,h1.out,h1.ob,h1.lg,h1.lf,h1.obs,h1.nd,h1.lb,h1.lo,fun k hk=>⟨(h1.own k hk).1,fun hp=> ?_⟩,fun k hk=> ?_,h1.sl,h1.sf⟩
 ·rcases hp with hp|hp
  ·exact(h1.own k hk).2 hp
  ·have:=h.lt hk;omega
 ·rcases hk with hk|hk
  ·exact h1.pl k hk
  ·exact⟨hk.2,ht k hk.1 hk.2⟩
theorem StQ.less {Q:Nat→Prop} (h:StQ P w0 w be bw tx inp s bl lv l vo vb gs fv) (hs: ∀k,Q k→P k):StQ Q w0 w be bw tx inp s bl lv l vo vb gs fv:=
 ⟨h.old,h.ev,h.wd,h.out,h.ob,h.lg,h.lf,h.obs,h.nd,h.lb,h.lo,fun k hk=>⟨(h.own k hk).1,fun hp=>(h.own k hk).2 (hs k hp)⟩,fun k hk=>h.pl k (hs k hk),h.sl,h.sf⟩
structure Cx (P:Nat→Prop) (w0 w':World) (be bw tx:Nat) (inp:ByteArray) (s:Ev) (bl:Nat) (lv:Value) (l:List V) (vo vb:Value) (gs:List Nat) (fv:List Value) (t:TypeId):Prop where
 old:But (fun _=>False) w0 w'
 ev:t≠164→XeB w' be tx bw s.left
 wd:t≠211→XwB w' bw tx inp (min s.read inp.size:Nat) vo vb
 out:t≠5→w'.ownsRow w0.heap.size 5 1 vo s.out.length (Lib.byteCells s.out)
 ob:t≠315→w'.ownsRow w0.heap.size 315 1 vb s.heap.length (ep gs)
 obj:t≠318→ ∀(k:Nat) o g v,s.heap[k]?=some o→gs[k]?=some g→fv[k]?=some v→XoB w' g (65+o.cls) v
 fld:t≠168→ ∀(k:Nat) o g v,s.heap[k]?=some o→gs[k]?=some g→fv[k]?=some v→w'.ownsRow w0.heap.size 168 2 v o.fs.length (au o.fs)
 lb:t≠280→w'.heap[bl]?=some (.cells #[lv] 280)
 lo:t≠168→w'.ownsRow w0.heap.size 168 2 lv l.length (au l)
 pl: ∀k,P k→k<w'.heap.size∧ ∀c fz,w'.heap[k]?≠some (.cells c 5 fz)
theorem StQ.stand (h:StQ P w0 w be bw tx inp s bl lv l vo vb gs fv) {g:Nat} {c:Array Value} {t:TypeId} {fr:Nat×Nat} (hg:w.heap[g]?=some (.cells c t fr)) (hg0:w0.heap.size≤g) (hgp: ¬P g) (hB:But (· =g) w w'):Cx P w0 w' be bw tx inp s bl lv l vo vb gs fv t:=by
 refine⟨h.old.next hB (fun k hk e=>by have e:k=g:=e;omega),fun ht=>h.ev.but hB (bv h.ev hg ht),fun ht=>h.wd.but hB (bv h.wd hg ht),fun ht=>ag h.out hB (fun k hk e=>aC h.out hg (Ne.symm ht) (e▸hk)),fun ht=>ag h.ob hB (fun k hk e=>aC h.ob hg (Ne.symm ht) (e▸hk)),fun ht k o q v a b d=> ?_,fun ht k o q v a b d=> ?_,fun ht=>(hB.block bl (ae h.lb) (bv h.lb hg ht)).trans h.lb,fun ht=>ag h.lo hB (fun k hk e=>aC h.lo hg (Ne.symm ht) (e▸hk)),fun k hk=> ?_⟩
 ·have x:=(h.obs k o q v a b d).1;exact(hB.block q (ae x) (bv x hg ht)).trans x
 ·have y:=(h.obs k o q v a b d).2;exact ag y hB (fun j hj e=>aC y hg (Ne.symm ht) (e▸hj))
 ·obtain⟨a,b⟩:=h.pl k hk;refine⟨Nat.lt_of_lt_of_le a hB.size,fun c fz e=> ?_⟩;rw[hB.block k a (fun e=>hgp (e▸hk))]at e;exact b c fz e
theorem StQ.fuel (h:StQ P w0 w be bw tx inp s bl lv l vo vb gs fv) (n:Nat):StQ P w0 (w.setCell ⟨be,2,none⟩ (.int .i64 n)) be bw tx inp {s with left:=n} bl lv l vo vb gs fv:=by
 have a:=h.stand h.ev h.k1.1 h.k1.2 (But.setB w be 2 (.int .i64 n));exact⟨a.old,h.ev.set2 _,a.wd (by decide),a.out (by decide),a.ob (by decide),h.lg,h.lf,fun k o g v x y z=>⟨a.obj (by decide) k o g v x y z,a.fld (by decide) k o g v x y z⟩,h.nd,a.lb (by decide),a.lo (by decide),h.own,a.pl,h.sl,h.sf⟩
theorem StQ.setL (h:StQ P w0 w be bw tx inp s bl lv l vo vb gs fv) {g:Nat} (hg:lv.ownBlock=some g) (j:Nat) (u:V):StQ P w0 ((w.setCell ⟨g,j*2,none⟩ (.int .i32 (xN u))).setCell ⟨g,j*2+1,none⟩ (.int .i64 (xO u))) be bw tx inp s bl lv (l.set j u) vo vb gs fv:=by
 have hB:But (· =g) w ((w.setCell ⟨g,j*2,none⟩ (.int .i32 (xN u))).setCell ⟨g,j*2+1,none⟩ (.int .i64 (xO u))):=(But.setB _ _ _ _).trans (But.setB _ _ _ _);obtain⟨cur,a0⟩:=cD h.lo hg;have a:=h.stand a0 (h.k6 hg).1 (h.k6 hg).2 hB;refine⟨a.old,a.ev (by decide),a.wd (by decide),a.out (by decide),a.ob (by decide),h.lg,h.lf,fun k o q v x y z=>⟨a.obj (by decide) k o q v x y z,ag (h.obs k o q v x y z).2 hB (fun i hi e=>h.sl v (List.mem_of_getElem? z) i hi (e▸hg))⟩,h.nd,a.lb (by decide),?_,h.own,a.pl,h.sl,h.sf⟩;rw[List.length_set];exact l7 u h.lo hg
theorem StQ.tmp {F:Nat→Prop} (h:StQ P w0 w be bw tx inp s bl lv l vo vb gs fv) (hB:But F w w') (hF: ∀k,F k→P k∧w0.heap.size≤k) (ht: ∀k,F k→ ∀c fz,w'.heap[k]?≠some (.cells c 5 fz)):StQ P w0 w' be bw tx inp s bl lv l vo vb gs fv:=by
 have h1: ∀k,uC be bw bl vo vb lv gs fv k→ ¬F k:=fun k hk hf=>(h.own k hk).2 (hF k hf).1
 have a:=(h.less (Q:=fun _=>False) (fun _ h=>h.elim)).but hB (fun k hf=>(hF k hf).2) h1 (fun _ h=>h.elim);refine⟨a.old,a.ev,a.wd,a.out,a.ob,a.lg,a.lf,a.obs,a.nd,a.lb,a.lo,h.own,fun k hk=> ?_,a.sl,a.sf⟩;obtain⟨x,y⟩:=h.pl k hk;refine⟨Nat.lt_of_lt_of_le x hB.size,fun c fz e=> ?_⟩
 by_cases hf:F k
 ·exact ht k hf c fz e
 ·rw[hB.block k x hf]at e;exact y c fz e
end
end
section
open Go Go.RowKit Sp
attribute [local go_sem ↓] Go.wp_at_zero Go.wp_at_succ
theorem pN {fn:Func} {Rr:Ending→World→Prop} {a:Act} {w:World} {c r:Nat} {K N:Int} (hf:fn.results=#[.cell c 168]) (hd:a.defers=[]) (hc:a.tmps.getD c undef= .pointer (some ⟨r,0,none⟩))
  (h0:w.heap[r]?=some (.cells #[.int .i32 K,.int .i64 N] 168)) (hR:Rr (.returned (.agg #[.int .i32 K,.int .i64 N])) w):bodyPost Tryz.prog fn Rr .ret a w:=by
 have r0:=ce0 h0;have r1:=ce1 h0;refine bodyPost_ret (v:= .agg #[.int .i32 K,.int .i64 N]) ?_ hd hR;have a0:a.tmps[c]?.getD undef= .pointer (some ⟨r,0,none⟩):=by simpa using hc
 simp[results,hf,a0,go_sem,r0,r1]
section
variable {P:Nat→Prop} {w0 w:World} {be bw tx bl:Nat} {inp:ByteArray} {s:Ev} {lv vo vb:Value} {l:List V} {gs:List Nat} {fv:List Value}
theorem AD (h:StQ P w0 w be bw tx inp s bl lv l vo vb gs fv) (j:Nat) (u:V) (hu:l[j]?=some u):
  Calls Tryz.prog 196 #[.pointer (some ⟨bl,0,none⟩),.int .i64 j] w fun en w'=>en= .returned (aG u)∧But (fun _=>False) w w':=by
 have hj:=(List.getElem?_eq_some_iff.1 hu).1;obtain⟨al,capl,rfl⟩:=aw h.lo;obtain⟨g,rfl,a2,a3,a0⟩:=aI h.lo (by omega);have q0:w.cell? ⟨g,j*2,none⟩=some (.int .i32 (xN u)):=a0 _ _ (bq (k:=0) hu (by omega));have q1:w.cell? ⟨g,j*2+1,none⟩=some (.int .i64 (xO u)):=a0 _ _ (bq (k:=1) hu (by omega));have hb:=h.lb;have b0:=ce0 hb;have a1:=ae hb;have a5: ¬((l.length:Int)≤(j:Int)):=by omega
 have a6:((j:Int))<(l.length:Int):=by omega
 have a4: ¬((j:Int)<0):=by omega
 clear a0 hu hb;generalize l.length=nl at*
 go_in
 go_wp2_with fail;exact pN Tryz.results196 rfl rfl (aq rfl _) ⟨rfl,But.alloc _ _ _⟩
theorem qR (h:StQ P w0 w be bw tx inp s bl lv l vo vb gs fv) (j:Nat) (u:V) (hj:j<l.length):
  Calls Tryz.prog 194 #[.pointer (some ⟨bl,0,none⟩),.int .i64 j,aG u] w fun en w'=>en= .returned (.tuple #[])∧But (fun k=>w0.heap.size≤k∧ ¬P k) w w'∧StQ P w0 w' be bw tx inp s bl lv (l.set j u) vo vb gs fv:=by
 unfold aG;obtain⟨al,capl,rfl⟩:=aw h.lo;obtain⟨g,rfl,a5,b2,a0⟩:=aI h.lo (by omega);obtain⟨u',hu⟩: ∃u',l[j]?=some u':=⟨_,List.getElem?_eq_getElem hj⟩;have q0:w.cell? ⟨g,j*2,none⟩=some (.int .i32 (xN u')):=a0 _ _ (bq (k:=0) hu (by omega));have q1:w.cell? ⟨g,j*2+1,none⟩=some (.int .i64 (xO u')):=a0 _ _ (bq (k:=1) hu (by omega));obtain⟨cur,a1⟩:=cD h.lo (g:=g) rfl;have z0:=frozen_of_row w g (j*2) _ _ a1;have z1:=frozen_of_row w g (j*2+1) _ _ a1;have hb:=h.lb;have b0:=ce0 hb;have a8:=ae hb;have a7:=(h.k6 (g:=g) rfl);have b4:((j:Int))<(l.length:Int):=by omega
 have b3:0≤(j:Int):=by omega
 clear a0 hu hb a1;generalize l.length=nl at*
 go_in
 go_wp2_with fail;have a4:But (fun _=>False) w (w.alloc (.cells #[.int .i32 (xN u),.int .i64 (xO u)] 168)):=But.alloc _ _ _;have a3:=heap_alloc_new w (.cells #[.int .i32 (xN u),.int .i64 (xO u)] 168);revert a4 a3;generalize (w.alloc (.cells #[.int .i32 (xN u),.int .i64 (xO u)] 168))=W;intro a4 a3;have a6:But (fun _=>False) W W.drew:=But.drew _ _;have y0:=ce0 a3;have y1:=ce1 a3;have b1:=a4.kc b0 a8;have m1:=ae a3;have m2:bl<W.heap.size:=by omega
 have a2:=a4.trans a6;have p0:=a2.kc q0 a5;have p1:=a2.kc q1 a5;have p2:=a2.kz z0 a5;have p3:=a2.kz z1 a5;have HP:=hid (And.intro p0 (And.intro p1 (And.intro p2 p3)));clear p0 p1 p2 p3 q0 q1 z0 z1 b0;refine aD (But (fun _=>False) W) 7 (by kernel_rfl) ?_
 iterate 7 (refine aJ (v:=?_) rfl (by kernel_rfl) (fun _ _ _ h=>h) rfl a6 ?_ ?_;rotate_left;(focus (intro wS h;have q0:=(h.kc b1 m2);have q1:=(h.kc y0 m1);have q2:=(h.kc y1 m1);clear h;go_simp;try rfl));dsimp only[Act.put];try simp only[aL])
 obtain⟨p0,p1,p2,p3⟩:=HP.out;have HS:=hid (fun X (hX:But (fun _=>False) w X)=>(h.new hX).setL (g:=g) rfl j u);clear y0 y1 b1 a6 HP;generalize W.drew=wd at*;refine ah rfl (by kernel_rfl) ?_;intro KS hKS;go_simp;refine hKS.out _ _ nofun ?_;clear hKS KS;refine aH rfl (by kernel_rfl) ?_;go_end0;exact⟨rfl,(a2.mono (fun _ _ h=>h.elim)).trans ((But.setCell wd (a:=⟨g,j*2,none⟩) (F:=fun k=>w0.heap.size≤k∧ ¬P k) a7 _).trans (But.setCell _ (a:=⟨g,j*2+1,none⟩) a7 _)),HS.out wd a2⟩
end
theorem gE:(Tryz.prog.info? 168).map (fun i=>(i.zero,i.size,i.bytes))=some (some (.agg #[.int .i32 0,.int .i64 0]),2,16):=by kernel_rfl
def fy (n:Nat):List Value:=(List.replicate n [Value.int .i32 0,.int .i64 0]).flatten
theorem zi (n:Nat):madeCells #[.int .i32 0,.int .i64 0] (n*2)=(fy n).toArray:=by
 apply Array.ext
 ·rw[size_madeCells];simp[fy]
 ·intro k h1 h2;rw[size_madeCells]at h1;have hk:k<n*2:=by simpa using h1
  have key: ∀(n k:Nat),k<n*2→(fy n)[k]?=some (if k % 2=0 then Value.int .i32 0 else .int .i64 0):=by
   intro n
   induction n with
   |zero=>intro k h;omega
   |succ n ih=>
    intro k h
    match k,h with
    |0,_=>simp[fy,List.replicate_succ]
    |1,_=>simp[fy,List.replicate_succ]
    |k+2,h=>
     have:=ih k (by omega);simp only[fy,List.replicate_succ,List.flatten_cons,List.cons_append,List.nil_append,List.getElem?_cons_succ]at this⊢;rw[this];simp[Nat.add_mod]
  have:=key n k hk;have a0:(fy n)[k]?=some ((fy n).toArray[k]):=by simp
  rw[a0]at this;have e:=Option.some.inj this;rw[e];rcases Nat.mod_two_eq_zero_or_one k with hm|hm<;>simp[madeCells,hm]
theorem sQ (n:Nat) (hn:n≤1000) (w:World):(Instr.makeSlice 213 (.int .i64 (n:Int)) (.int .i64 (n:Int))).run Tryz.prog w= .ok (.slice (some ⟨w.heap.size,0,none⟩) n n) (w.alloc (.cells (fy n).toArray 168)):=by
 have a0:=gE
 cases hi:Tryz.prog.info? 168 with
 |none=>rw[hi]at a0;cases a0
 |some i=>
  rw[hi]at a0;simp only[Option.map_some,Option.some.injEq,Prod.mk.injEq]at a0;obtain⟨hz,hs,hb⟩:=a0;have:=run_make (P:=Tryz.prog) w 213 168 i _ (by kernel_rfl) hi hz .i64 .i64 n n (by omega) (by omega) (by rw[hb];omega) (by omega);rw[this,hs];simp only[Int.toNat_natCast,Value.cells];rw[zi]
theorem uD (ts:List UInt8):fy ts.length=au (ts.map cC):=by
 induction ts with
 |nil=>rfl
 |cons t ts ih=>
  obtain⟨h1,h2⟩:=BE t;simp only[fy,au]at ih;simp[fy,List.replicate_succ,au,io,h1,h2,ih]
theorem sR {w:World} {g base:Nat} {ts:List UInt8} (hb:base≤g) (hg:w.heap[g]?=some (.cells (fy ts.length).toArray 168)) (hl:ts.length≤1000):w.ownsRow base 168 2 (.slice (some ⟨g,0,none⟩) ts.length ts.length) ts.length (au (ts.map cC)):=by
 have hz:=uD ts;have hn:(fy ts.length).length=ts.length*2:=by rw[hz,dn];simp
 refine⟨by rw[dn];simp,Or.inr ⟨g,ts.length,(fy ts.length).toArray,rfl,hb,hg,Nat.le_refl _,by unfold maxLen;omega,by simpa using hn,?_⟩⟩;rw[←hz];simp only;rw[List.take_of_length_le (by omega)]
section
variable {P:Nat→Prop} {w0 w:World} {be bw tx bl:Nat} {inp:ByteArray} {s:Ev} {lv vo vb:Value} {l:List V} {gs:List Nat} {fv:List Value}
theorem kv (b:UInt8) (m:Int) (a:UInt8) (lo:List UInt8) (al:Option Addr) (capl:Nat) (ai:Option Addr) (ni ci:Nat) (w:World) (hl:lo.length≤5):
  Calls Tryz.prog 138 #[.agg #[.int .u8 b.toNat,.int .i64 m,.int .u8 a.toNat,.slice al lo.length capl,.slice ai ni ci]] w fun en w'=> ∃(bl:Nat) (lv:Value),en= .returned (.pointer (some ⟨bl,0,none⟩))∧But (fun _=>False) w w'∧w'.heap[bl]?=some (.cells #[lv] 280)∧w'.ownsRow w.heap.size 168 2 lv lo.length (au (lo.map cC))∧w.heap.size≤bl:=by
 have a0:=sQ lo.length (by omega)
 go_in
 go_wp2_with fail;go_ret;refine⟨w.heap.size+1+1,.slice (some ⟨w.heap.size+1,0,none⟩) lo.length lo.length,rfl,((But.alloc _ _ _).trans (But.alloc _ _ _)).trans (But.alloc _ _ _),aq (by simp) _,?_,by omega⟩;refine sR (by omega) (((But.alloc (fun _=>False) _ _).block _ (by simp) (fun h=>h)).trans (aq (by simp) _)) (by omega)
end
theorem AE:(Tryz.prog.info? 315).map (fun i=>(i.zero,i.size,i.bytes))=some (some (.pointer none),1,8):=by kernel_rfl
section
variable {P:Nat→Prop} {w0 w:World} {be bw tx bl:Nat} {inp:ByteArray} {s:Ev} {lv vo vb:Value} {l:List V} {gs:List Nat} {fv:List Value}
theorem eR {α:Type} {xs:List α} {x u:α} {i:Nat} (h:(xs++ [x])[i]?=some u):(i<xs.length∧xs[i]?=some u)∨(i=xs.length∧u=x):=by
 rcases Nat.lt_or_ge i xs.length with hl|hl
 ·rw[List.getElem?_append_left hl]at h;exact Or.inl ⟨hl,h⟩
 ·rw[List.getElem?_append_right hl]at h
  cases hq:i-xs.length with
  |zero=>rw[hq]at h;cases h;exact Or.inr ⟨by omega,rfl⟩
  |succ q=>rw[hq]at h;simp at h
end
theorem zj:(Tryz.prog.info? 5).map (fun i=>(i.zero,i.size,i.bytes))=some (some (.int .u8 0),1,1):=by kernel_rfl
theorem xA {w w':World} (h:But (fun _=>False) w w'):Below w.heap.size w w':=h.toBelow (Nat.le_refl _) (fun _ h=>h.elim)
section
variable {P:Nat→Prop} {w0 w w':World} {be bw tx bl:Nat} {inp:ByteArray} {s:Ev} {lv vo vb:Value} {l:List V} {gs:List Nat} {fv:List Value}
structure cW (w0 w w':World):Prop where
 bel:Below w0.heap.size w w'
 kept: ∀(k:Nat) o,w.heap[k]?=some o→(∀c fz,o≠ .cells c 5 fz)→w'.heap[k]?=some o
theorem cW.grown {X w2:World} {v:Value} {n:Nat} {xs:List Value} (h0:w0.heap.size≤X.heap.size) (ho:X.ownsRow w0.heap.size 5 1 v n xs) (hB:But (fun k=>v.ownBlock=some k) X w2):cW w0 X w2:=by
 refine⟨⟨hB.os,hB.tape,hB.output,hB.size,fun k hk=> ?_⟩,fun k o hk hn=> ?_⟩
 ·exact hB.block k (by omega) (fun hv=>by have:=aA ho k hv;omega)
 ·refine(hB.block k (ae hk) (fun hv=> ?_)).trans hk;obtain⟨cur,hc⟩:=cD ho hv;rw[hk]at hc
  cases hc
  exact hn _ _ rfl
end
def ReV (P:Nat→Prop) (w0 w:World) (be bw tx:Nat) (inp:ByteArray) (bl:Nat) (lv:Value) (r:R) (en:Ending) (w':World):Prop:=
 But (FrQ P w0) w w'∧ ∃vo vb gs fv,match r with
 | .ok u l s=>en= .returned (.tuple #[aG u,.int .i64 0])∧StQ P w0 w' be bw tx inp s bl lv l vo vb gs fv
 | .bad e o=>en= .returned (.tuple #[.agg #[.int .i32 0,.int .i64 0],.int .i64 (bK e)])∧ ∃s l,s.out=o∧StQ P w0 w' be bw tx inp s bl lv l vo vb gs fv
structure NB (w X:World):Prop where
 but:But (fun _=>False) w X
 nb: ∀k,w.heap.size≤k→k<X.heap.size→ ∀c fz,X.heap[k]?≠some (.cells c 5 fz)
theorem NB.refl (w:World):NB w w:=⟨But.refl _ _,fun k h1 h2=>by omega⟩
theorem NB.alloc {w X:World} {c:Array Value} {t:Nat} (h:NB w X) (ht:t≠5):NB w (X.alloc (.cells c t)):=by
 refine⟨h.but.trans (But.alloc _ _ _),fun k h1 h2 c' fz e=> ?_⟩;have h2:k<X.heap.size+1:=by simpa using h2
 rcases Nat.lt_or_ge k X.heap.size with h3|h3
 ·rw[(But.alloc (fun _=>False) X _).block k h3 (fun h=>h)]at e;exact h.nb k h1 h3 c' fz e
 ·have:k=X.heap.size:=by omega
  subst this;rw[heap_alloc_new]at e
  cases e
  exact ht rfl
theorem dX {w:World} {c1 c2 c3 c4:Array Value}:NB w ((((w.alloc (.cells c1 219)).alloc (.cells c2 168)).alloc (.cells c3 168)).alloc (.cells c4 168)):=
 ((((NB.refl w).alloc (by decide)).alloc (by decide)).alloc (by decide)).alloc (by decide)
section
variable {P:Nat→Prop} {w0 w:World} {be bw tx bl:Nat} {inp:ByteArray} {s:Ev} {lv vo vb:Value} {l:List V} {gs:List Nat} {fv:List Value}
abbrev PQ (P:Nat→Prop) (w X:World) (k:Nat):Prop:=P k∨(w.heap.size≤k∧k<X.heap.size)
theorem StQ.grown {X:World} (h:StQ P w0 w be bw tx inp s bl lv l vo vb gs fv) (hN:NB w X):StQ (PQ P w X) w0 X be bw tx inp s bl lv l vo vb gs fv:=h.grow hN.but hN.nb
theorem StQ.fin {X X':World} {r:Nat} (hN:NB w X) (h0:w0.heap.size≤w.heap.size) (hs:StQ (PQ P w X) w0 X' be bw tx inp s bl lv l vo vb gs fv) (hB:But (FrQ (PQ P w X) w0) X X') (hr:w.heap.size≤r) (hx:cP X r) (a b:Int):
  cP X' r∧But (FrQ P w0) w ((X'.setCell ⟨r,0,none⟩ (.int .i32 a)).setCell ⟨r,1,none⟩ (.int .i64 b))∧StQ P w0 ((X'.setCell ⟨r,0,none⟩ (.int .i32 a)).setCell ⟨r,1,none⟩ (.int .i64 b)) be bw tx inp s bl lv l vo vb gs fv:=by
 have a0:r<X.heap.size:=by obtain⟨K,N,hx⟩:=hx;exact ae hx
 have a1:cP X' r:=hx.but hB (fun hf=>hf.2 (Or.inr ⟨hr,a0⟩));refine⟨a1,?_,?_⟩
 ·refine((hN.but.mono (fun _ _ h=>h.elim)).trans (hB.mono (fun k hk hf=>⟨hf.1,fun hp=>hf.2 (Or.inl hp)⟩))).next (cS _ _ _ _) (fun k hk e=>by have e:k=r:=e;omega)
 ·refine(hs.tmp (F:=(· =r)) (cS _ _ _ _) (fun k e=>by have e:k=r:=e;subst e;exact⟨Or.inr ⟨hr,a0⟩,by omega⟩) (fun k e c fz he=> ?_)).less (fun k hp=>Or.inl hp);have e:k=r:=e;subst e;rw[a1.put]at he
  cases he
theorem StQ.fin0 {X X':World} {r:Nat} (h:StQ P w0 w be bw tx inp s bl lv l vo vb gs fv) (hN:NB w X) (hB:But (fun _=>False) X X') (hr:w.heap.size≤r) (hx:cP X r) (a b:Int):
  cP X' r∧But (FrQ P w0) w ((X'.setCell ⟨r,0,none⟩ (.int .i32 a)).setCell ⟨r,1,none⟩ (.int .i64 b))∧StQ P w0 ((X'.setCell ⟨r,0,none⟩ (.int .i32 a)).setCell ⟨r,1,none⟩ (.int .i64 b)) be bw tx inp s bl lv l vo vb gs fv:=
 StQ.fin hN h.old.size ((h.grown hN).new hB) (hB.mono (fun _ _ h=>h.elim)) hr hx a b
end
theorem fm {fn:Func} {Rr:Ending→World→Prop} {a:Act} {w:World} {c f:Nat} {u v:Value} (hf:fn.results=#[.tmp c,.tmp f]) (hd:a.defers=[]) (hc:a.tmps.getD c undef=u) (he:a.tmps.getD f undef=v) (hR:Rr (.returned (.tuple #[u,v])) w):bodyPost Tryz.prog fn Rr .ret a w:=by
 refine bodyPost_ret (v:= .tuple #[u,v]) ?_ hd hR;have a0:a.tmps[c]?.getD undef=u:=by simpa using hc
 have a1:a.tmps[f]?.getD undef=v:=by simpa using he
 simp[results,hf,a0,a1,go_sem]
theorem Cy {fn:Func} {Rr:Ending→World→Prop} {a:Act} {w:World} {c r:Nat} {v0 v1 v2 v3 v4:Value} (hf:fn.results=#[.cell c 219]) (hd:a.defers=[]) (hc:a.tmps.getD c undef= .pointer (some ⟨r,0,none⟩))
  (h0:w.heap[r]?=some (.cells #[v0,v1,v2,v3,v4] 219)) (hR:Rr (.returned (.agg #[v0,v1,v2,v3,v4])) w):bodyPost Tryz.prog fn Rr .ret a w:=by
 have r0:=ce0 h0;have r1:=ce1 h0;have r2:=ce2 h0;have r3:=ce3 h0;have r4:=ce4 h0;refine bodyPost_ret (v:= .agg #[v0,v1,v2,v3,v4]) ?_ hd hR;have a0:a.tmps[c]?.getD undef= .pointer (some ⟨r,0,none⟩):=by simpa using hc
 simp[results,hf,a0,go_sem,r0,r1,r2,r3,r4]
def bU (x:XIt):Value:= .agg #[.int .i64 x.place,.int .u8 x.op.toNat,.int .u8 x.cls.toNat,.int .i64 x.num,.slice x.pa x.pn x.pc]
theorem ow (c:UInt8) (m:Nat) (an:UInt8) (vl vi:Value) (its:List XIt) (i:Nat) (x:XIt) (w:World) (hI:ItB w 0 vi its) (hx:its[i]?=some x) (hl:its.length≤1000):
  Calls Tryz.prog 152 #[.agg #[.int .u8 c.toNat,.int .i64 m,.int .u8 an.toNat,vl,vi],.int .i64 i] w fun en w'=>en= .returned (bU x)∧NB w w':=by
 have a6:=(List.getElem?_eq_some_iff.1 hx).1;unfold ItB at hI;obtain⟨ai,ci,rfl⟩:=aw hI;obtain⟨g,rfl,a1,a2,a0⟩:=aI hI (by omega);have q0:w.cell? ⟨g,i*5,none⟩=some _:=a0 _ _ (aP (k:=0) hx (by omega));have q1:w.cell? ⟨g,i*5+1,none⟩=some _:=a0 _ _ (aP (k:=1) hx (by omega));have q2:w.cell? ⟨g,i*5+2,none⟩=some _:=a0 _ _ (aP (k:=2) hx (by omega));have q3:w.cell? ⟨g,i*5+3,none⟩=some _:=a0 _ _ (aP (k:=3) hx (by omega));have q4:w.cell? ⟨g,i*5+4,none⟩=some _:=a0 _ _ (aP (k:=4) hx (by omega));have a3: ¬((i:Int)<0):=by omega
 have a4: ¬((its.length:Int)≤(i:Int)):=by omega
 have a5:(i:Int)<(its.length:Int):=by omega
 unfold bU;clear a0 hx hI;generalize its.length=ni at*
 go_in
 go_wp2_with fail;exact Cy Tryz.results152 rfl rfl (aq (by simp) _) ⟨rfl,((NB.refl w).alloc (by decide)).alloc (by decide)⟩
def FrB (w:World) (bf d:Nat) (X:bz) (vl vi:Value) (bl:Nat):Prop:=
 w.heap[bf]?=some (.cells #[.int .i64 d,.int .u8 X.cls.toNat,.int .i64 X.meth,.int .u8 X.ans.toNat,vl,vi,.pointer (some ⟨bl,0,none⟩)] 234)
theorem FrB.but {F:Nat→Prop} {w w':World} {bf d bl:Nat} {X:bz} {vl vi:Value} (h:FrB w bf d X vl vi bl) (hb:But F w w') (hf: ¬F bf):FrB w' bf d X vl vi bl:=(hb.block bf (ae h) hf).trans h
structure AF (w:World) (gs:List Sig) (b:Bod) (X:bz) (vl vi:Value):Prop where
 bt:BtB w 0 vl X.locals
 it:ItB w 0 vi X.items
 bd:BdN w 0 gs X b
section
variable {P:Nat→Prop} {w0 w w':World} {be bw tx bl:Nat} {inp:ByteArray} {s:Ev} {lv vo vb:Value} {l:List V} {gs:List Nat} {fv:List Value}
theorem kw {fu:Int} (he:XeB w be tx bw fu) (h0:But (fun _=>False) w0 w) (im:Img) (hT:dA w0 tx im) (q d:Nat) (b:Bod) (hq:im.bodies[q]?=some b) (hlo:b.locals.length≤5) (hnb:im.bodies.length≤100):
  Calls Tryz.prog 92 #[.pointer (some ⟨be,0,none⟩),.int .i64 q,.int .i64 d] w fun en w'=> ∃(bf bl':Nat) (lv':Value) (X:bz) (vl vi:Value),en= .returned (.pointer (some ⟨bf,0,none⟩))∧But (fun _=>False) w w'∧FrB w' bf d X vl vi bl'∧AF w0 im.sigs b X vl vi∧w'.heap[bl']?=some (.cells #[lv'] 280)∧w'.ownsRow w.heap.size 168 2 lv' b.locals.length (au (b.locals.map cC))∧w.heap.size≤bl'∧w.heap.size≤bf:=by
 obtain⟨bs,⟨v2,t2,b0,lb,hO,hm,hf⟩,a5,b5⟩:=hT.bod;have e2:=(List.getElem?_eq_some_iff.1 hq).1;have a8:lb.length=im.bodies.length:=by rw[←a5,←hm];simp
 obtain⟨⟨X,vl,vi⟩,hX⟩: ∃x,lb[q]?=some x:=⟨_,List.getElem?_eq_getElem (by omega)⟩;have b4:bs[q]?=some X:=by rw[←hm];simp[hX]
 have hB:=b5 q X b b4 hq;obtain⟨f1,f2⟩:=hf _ (List.mem_of_getElem? hX);simp only at f1 f2;have b1:Hid (AF w0 im.sigs b X vl vi):=⟨f1,f2,hB⟩;obtain⟨al,capl,rfl⟩:=aw f1;obtain⟨ai,capi,rfl⟩:=aw f2;obtain⟨ao,capo,rfl⟩:=aw hO;obtain⟨g,rfl,a2,e4,a0⟩:=aI hO (by omega);have q0:=a0 _ _ (aW (k:=0) hX (by omega));have q1:=a0 _ _ (aW (k:=1) hX (by omega));have q2:=a0 _ _ (aW (k:=2) hX (by omega));have q3:=a0 _ _ (aW (k:=3) hX (by omega));have q4:=a0 _ _ (aW (k:=4) hX (by omega));simp only[Nat.add_zero,List.getElem?_cons_zero,List.getElem?_cons_succ]at q0 q1 q2 q3 q4;have b9:X.locals.length=b.locals.length:=by rw[hB.loc]
 rw[b9]at b1;have b2:=hid (fun Y=>kv X.cls (X.meth:Int) X.ans X.locals al capl ai X.items.length capi Y (by omega));have d6:=hid hB.loc;have e0:=he.c0;have e3:=he.lt;have e5:(0:Int)≤(q:Int):=by omega
 have e6:(q:Int)<(lb.length:Int):=by omega
 replace q0:=(h0.cell a2 (fun h=>h)).trans q0;replace q1:=(h0.cell a2 (fun h=>h)).trans q1;replace q2:=(h0.cell a2 (fun h=>h)).trans q2;replace q3:=(h0.cell a2 (fun h=>h)).trans q3;replace q4:=(h0.cell a2 (fun h=>h)).trans q4;replace t2:=(h0.cell b0 (fun h=>h)).trans t2;replace a2:=Nat.lt_of_lt_of_le a2 h0.size;replace b0:=Nat.lt_of_lt_of_le b0 h0.size;clear a5 b5 a8 hX b4 hB f1 f2 a0 hf hO hm hq e2 hT he;generalize lb.length=nb at*
 go_in
 go_wp2_with fail;have a6:=heap_alloc_new w (.cells #[.int .u8 X.cls.toNat,.int .i64 X.meth,.int .u8 X.ans.toNat,.slice al b.locals.length capl,.slice ai X.items.length capi] 115);have a3:But (fun _=>False) w (w.alloc (.cells #[.int .u8 X.cls.toNat,.int .i64 X.meth,.int .u8 X.ans.toNat,.slice al b.locals.length capl,.slice ai X.items.length capi] 115)):=But.alloc _ _ _;revert a6 a3;generalize (w.alloc (.cells #[.int .u8 X.cls.toNat,.int .i64 X.meth,.int .u8 X.ans.toNat,.slice al b.locals.length capl,.slice ai X.items.length capi] 115))=W;intro a6 a3;obtain⟨k0,k1,k2,k3,k4⟩:=bp a6;have gltW:=ae a6
 clear q0 q1 q2 q3 q4 t2 e0 a6;have b3:But (fun _=>False) W W.drew:=But.drew _ _;rw[b9]at b2;refine aD (But (fun _=>False) W) 6 (by kernel_rfl) ?_
 iterate 3 (refine aJ (v:=?_) rfl (by kernel_rfl) (fun _ _ _ h=>h) rfl b3 ?_ ?_;rotate_left;(focus (intro wS h;have q0:=(h.kc k0 gltW);have q1:=(h.kc k1 gltW);have q2:=(h.kc k2 gltW);have q3:=(h.kc k3 gltW);have q4:=(h.kc k4 gltW);clear h;go_simp;try rfl));dsimp only[Act.put];try simp only[aL])
 refine ah rfl (by kernel_rfl) ?_;intro KS hKS;go_simp;refine(b2.out _).mono ?_;rintro en w1 ⟨bl',lv',rfl,e1,b6,c6,a7⟩;have a1:=b3.trans e1;refine hKS.out _ _ (fun _=>a1) ?_;clear hKS KS;refine ah rfl (by kernel_rfl) ?_;intro KS hKS;go_simp;refine hKS.out _ _ (fun _=>a1) ?_;clear hKS KS;refine ah rfl (by kernel_rfl) ?_;intro KS hKS;go_simp;refine hKS.out _ _ (fun _=>a1.trans (But.alloc _ _ _)) ?_;clear hKS KS;refine jX rfl (by kernel_rfl) ?_;go_wp2_with fail;go_ret;have a4:=a3.trans a1;refine⟨_,bl',lv',X,_,_,rfl,a4.trans (But.alloc _ _ _),heap_alloc_new _ _,b1.out,((But.alloc (fun _=>False) _ _).block bl' (ae b6) (fun h=>h)).trans b6,?_,Nat.le_trans a3.size a7,a4.size⟩
 rw[d6.out]at c6;exact World.ownsRow.mono (ag c6 (But.alloc (fun _=>False) _ _) (fun _ _ h=>h)) a3.size
theorem qS (h:StQ P w0 w be bw tx inp s bl lv l vo vb gs fv) (im:Img) (hT:dA w0 tx im) (q d:Nat) (b:Bod) (hq:im.bodies[q]?=some b) (hlo:b.locals.length≤5) (hnb:im.bodies.length≤100):
  Calls Tryz.prog 92 #[.pointer (some ⟨be,0,none⟩),.int .i64 q,.int .i64 d] w fun en w'=> ∃(bf bl':Nat) (lv':Value) (X:bz) (vl vi:Value),en= .returned (.pointer (some ⟨bf,0,none⟩))∧But (fun _=>False) w w'∧FrB w' bf d X vl vi bl'∧AF w0 im.sigs b X vl vi∧w'.heap[bl']?=some (.cells #[lv'] 280)∧w'.ownsRow w.heap.size 168 2 lv' b.locals.length (au (b.locals.map cC))∧w.heap.size≤bl'∧w.heap.size≤bf:=kw h.ev h.old im hT q d b hq hlo hnb
abbrev o7 (bl:Nat) (lv:Value) (k:Nat):Prop:=k=bl∨lv.ownBlock=some k
theorem StQ.enter {bl':Nat} {lv':Value} {l':List V} (h:StQ P w0 w be bw tx inp s bl lv l vo vb gs fv) (hB:But (fun _=>False) w w') (hb:w'.heap[bl']?=some (.cells #[lv'] 280)) (hr:w'.ownsRow w.heap.size 168 2 lv' l'.length (au l')) (hbl:w.heap.size≤bl'):
  StQ (fun k=>P k∨o7 bl lv k) w0 w' be bw tx inp s bl' lv' l' vo vb gs fv:=by
 have h1:=h.new hB;have h0:=h.old.size;have a0: ∀k,lv'.ownBlock=some k→w.heap.size≤k:=fun k hk=>aA hr k hk
 have old: ∀{k},uC be bw bl vo vb lv gs fv k→ ¬o7 bl lv k→(w0.heap.size≤k∧ ¬(P k∨o7 bl lv k)):=fun hk hn=>⟨(h.own _ hk).1,fun hp=>hp.elim (h.own _ hk).2 hn⟩
 have nl: ∀{k},∀{c:Array Value} {t:Nat} {fz:Nat×Nat},w.heap[k]?=some (.cells c t fz)→t≠280→t≠168→ ¬o7 bl lv k:=fun hk h1 h2 hl=>by
  rcases hl with rfl|hl
  ·rw[h.lb]at hk;cases hk;exact h1 rfl
  ·obtain⟨cur,hc⟩:=cD h.lo hl;rw[hc]at hk;cases hk;exact h2 rfl
 have nr: ∀{v:Value} {t z n:Nat} {xs:List Value} {k:Nat},w.ownsRow w0.heap.size t z v n xs→v.ownBlock=some k→t≠280→t≠168→ ¬o7 bl lv k:=fun hr hk a b=>by
  obtain⟨cur,hc⟩:=cD hr hk;exact nl hc a b
 refine⟨h1.old,h1.ev,h1.wd,h1.out,h1.ob,h1.lg,h1.lf,h1.obs,h1.nd,hb,World.ownsRow.mono hr h0,?_,?_,?_,h1.sf⟩
 ·intro k hk
  have new:w.heap.size≤k→(w0.heap.size≤k∧ ¬(P k∨o7 bl lv k)):=fun hw=>⟨by omega,fun hp=>by
   rcases hp with hp|rfl|hp
   ·have:=(h.pl k hp).1;omega
   ·have:=ae h.lb;omega
   ·have:=aX h.lo k hp;omega⟩
  rcases hk with rfl|rfl|rfl|hk|hk|hk|hk| ⟨v,hv,hk⟩
  ·exact old (Or.inl rfl) (nl h.ev (by decide) (by decide))
  ·exact old (Or.inr (Or.inl rfl)) (nl h.wd (by decide) (by decide))
  ·exact new hbl
  ·exact old (Or.inr (Or.inr (Or.inr (Or.inl hk)))) (nr h.out hk (by decide) (by decide))
  ·exact old (Or.inr (Or.inr (Or.inr (Or.inr (Or.inl hk))))) (nr h.ob hk (by decide) (by decide))
  ·exact new (a0 k hk)
  ·obtain⟨c,v,ho⟩:=h.mg hk;exact old (Or.inr (Or.inr (Or.inr (Or.inr (Or.inr (Or.inr (Or.inl hk))))))) (nl ho (by decide) (by decide))
  ·refine old (Or.inr (Or.inr (Or.inr (Or.inr (Or.inr (Or.inr (Or.inr ⟨v,hv,hk⟩))))))) (fun hl=> ?_);rcases hl with rfl|hl
   ·obtain⟨n,xs,ho⟩:=h.mv hv;obtain⟨cur,hc⟩:=cD ho hk;rw[h.lb]at hc;injection hc with hc;injection hc with _ h2;exact absurd h2 (by decide)
   ·exact h.sl v hv k hk hl
 ·intro k hk;rcases hk with hk|hk
  ·exact h1.pl k hk
  ·rcases hk with rfl|hk
   ·exact⟨ae h1.lb,fun c fz e=>by rw[h1.lb]at e;injection e with e;injection e with _ h2;exact absurd h2 (by decide)⟩
   ·refine⟨aX h1.lo k hk,fun c fz e=> ?_⟩;obtain⟨cur,hc⟩:=cD h1.lo hk;rw[hc]at e;injection e with e;injection e with _ h2;exact absurd h2 (by decide)
 ·intro v hv g hg hl;obtain⟨n,xs,ho⟩:=h.mv hv;have:=aX ho g hg;have:=a0 g hl;omega
theorem StQ.leave {Q:Nat→Prop} {bl':Nat} {lv' vo' vb':Value} {l':List V} {gs':List Nat} {fv':List Value} {s':Ev} (h:StQ P w0 w be bw tx inp s bl lv l vo vb gs fv) (h':StQ Q w0 w' be bw tx inp s' bl' lv' l' vo' vb' gs' fv') (hB:But (FrQ Q w0) w w') (hQ: ∀k,P k∨o7 bl lv k→Q k):StQ P w0 w' be bw tx inp s' bl lv l vo' vb' gs' fv':=by
 have a0: ∀k,o7 bl lv k→ ¬FrQ Q w0 k:=fun k hk hf=>hf.2 (hQ k (Or.inr hk))
 refine⟨h'.old,h'.ev,h'.wd,h'.out,h'.ob,h'.lg,h'.lf,h'.obs,h'.nd,(hB.block bl (ae h.lb) (a0 bl (Or.inl rfl))).trans h.lb,ag h.lo hB (fun g hg=>a0 g (Or.inr hg)),?_,fun k hk=>h'.pl k (hQ k (Or.inl hk)),?_,h'.sf⟩
 ·intro k hk;have new: ∀{k},uC be bw bl' vo' vb' lv' gs' fv' k→(w0.heap.size≤k∧ ¬P k):=fun hk=>⟨(h'.own _ hk).1,fun hp=>(h'.own _ hk).2 (hQ _ (Or.inl hp))⟩
  rcases hk with rfl|rfl|rfl|hk|hk|hk|hk|hk
  ·exact new (Or.inl rfl)
  ·exact new (Or.inr (Or.inl rfl))
  ·exact h.k3
  ·exact new (Or.inr (Or.inr (Or.inr (Or.inl hk))))
  ·exact new (Or.inr (Or.inr (Or.inr (Or.inr (Or.inl hk)))))
  ·exact h.k6 hk
  ·exact new (Or.inr (Or.inr (Or.inr (Or.inr (Or.inr (Or.inr (Or.inl hk)))))))
  ·exact new (Or.inr (Or.inr (Or.inr (Or.inr (Or.inr (Or.inr (Or.inr hk)))))))
 ·intro v hv g hg hl;exact(h'.k8 hv hg).2 (hQ g (Or.inr (Or.inr hl)))
end
end
end Go.Proofs.YtpfkkmacakjmbaaGreatDoor
