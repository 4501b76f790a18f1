import Derived.Test.YtpfkkmacakjmbaaGreatDoorP17
import Derived.Test.YtpfkkmacakjmbaaGreatDoorP21
set_option maxRecDepth 100000
set_option maxHeartbeats 6400000
set_option linter.all false
namespace Go.Proofs.YtpfkkmacakjmbaaGreatDoor
open Proofs.Tryz
section
open Go Go.RowKit Sp
attribute [local go_sem ↓] dG dH
def xN:V->Int
 | .i n=>n
 |_=>0
def xO:V->Int
 | .o k=>k+1
 |_=>0
def bW (v:V):Value:= .agg #[.int .i32 (xN v),.int .i64 (xO v)]
def ku (v:V):List Value:=[.int .i32 (xN v),.int .i64 (xO v)]
def aJ (l:List V):List Value:=l.flatMap ku
theorem eD (l:List V):(aJ l).length=l.length*2:=by
 induction l with
 |nil=>rfl
 |cons v l ih=>simp[aJ,ku]at ih⊢;omega
theorem fa {l:List V} {j k:Nat} {v:V} (h:l[j]?=some v) (hk:k<2):(aJ l)[j*2+k]?=(ku v)[k]?:=eY ku 2 (λ_=>rfl) l j k v h hk
theorem qI (l:List V) (j:Nat) (u:V):aJ (l.set j u)=((aJ l).set (j*2) (.int .i32 (xN u))).set (j*2+1) (.int .i64 (xO u)):=by
 induction l generalizing j with
 |nil=>simp[aJ]
 |cons v l ih=>
  cases j with
  |zero=>simp[aJ,ku]
  |succ j=>
   have:=ih j;simp only[aJ]at this;simp[aJ,ku,Nat.succ_mul,this]
theorem DD (t:UInt8):xN (dc t)=0/\xO (dc t)=0:=by unfold dc;split<;>exact⟨rfl,rfl⟩
def cD (e:Nat):Int:=if e=5 then 1 else if e=6 then 2 else if e=7 then 3 else if e=8 then 4 else if e=9 then 5 else if e=10 then 6 else 0
theorem qa (b:Bool) (w:World):
  Calls prog 235 #[.bool b] w λen w'=>en= .returned (bW (if b=true then .i 1 else .i 0))/\B_ w w':=by
 cases b
 .go_in
  go_wp2_with fail;exact cW (v:=bW (.i 0)) (by simp[results,results235,go_sem,bW,xN,xO]) rfl ⟨rfl,ag _ _ _⟩
 .go_in
  go_wp2_with fail;exact cW (v:=bW (.i 1)) (by simp[results,results235,go_sem,bW,xN,xO]) rfl ⟨rfl,ag _ _ _⟩
def lX (op:Nat) (a b:Int):Value:=if op=47/\b=0 then .tuple #[bW .z,.int .i64 3]else .tuple #[bW (.i (if op=47 then w32 (Int.tdiv a b)else oI op a b)),.int .i64 0]
theorem gC {fn:Func} {Rr:Ending->World->Prop} {a:Act} {w:World} {c f r:Nat} {K N e:Int} (hf:fn.results=#[.cell c 168,.tmp f]) (hd:a.defers=[]) (hc:a.tmps.getD c undef= .pointer (some ⟨r,0,none⟩)) (he:a.tmps.getD f undef= .int .i64 e)
  (h0:w.heap[r]?=some (.cells #[.int .i32 K,.int .i64 N] 168)) (hR:Rr (.returned (.tuple #[.agg #[.int .i32 K,.int .i64 N],.int .i64 e])) w):bodyPost prog fn Rr .ret a w:=by
 have r0:=ce0 h0;have r1:=ce1 h0;refine cW (v:= .tuple #[.agg #[.int .i32 K,.int .i64 N],.int .i64 e]) ?_ hd hR;have a0:a.tmps[c]?.getD undef= .pointer (some ⟨r,0,none⟩):=by simpa using hc
 have a1:a.tmps[f]?.getD undef= .int .i64 e:=by simpa using he
 simp[results,hf,a0,a1,go_sem,r0,r1]
def eK (w:World) (r:Nat):Prop:= ∃K N:Int,w.heap[r]?=some (.cells #[.int .i32 K,.int .i64 N] 168)
theorem eK.but {F:Nat->Prop} {w w':World} {r:Nat} (h:eK w r) (hb:But F w w') (hf: ¬F r):eK w' r:=by
 obtain⟨K,N,h⟩:=h;exact⟨K,N,(hb.block r (ae h) hf).trans h⟩
theorem eK.parts {w:World} {r:Nat} (h:eK w r): ∃K N:Int,w.cell? ⟨r,0,none⟩=some (.int .i32 K)/\w.cell? ⟨r,1,none⟩=some (.int .i64 N)/\w.frozen? ⟨r,0,none⟩=false/\w.frozen? ⟨r,1,none⟩=false/\r<w.heap.size:=by
 obtain⟨K,N,h⟩:=h;exact⟨K,N,by rw[aX w r 0 _ _ (0,0) h];rfl,by rw[aX w r 1 _ _ (0,0) h];rfl,b7 w r 0 _ _ h,b7 w r 1 _ _ h,ae h⟩
theorem eK.put {w:World} {r:Nat} (h:eK w r) (K N:Int):((w.setCell ⟨r,0,none⟩ (.int .i32 K)).setCell ⟨r,1,none⟩ (.int .i64 N)).heap[r]?=some (.cells #[.int .i32 K,.int .i64 N] 168):=by
 obtain⟨K',N',h⟩:=h;exact bG _ r 1 _ _ _ (bG _ r 0 _ _ _ h)
theorem zi (op:Nat) (hop:op=43\/op=45\/op=42\/op=60\/op=61\/op=47) (a b:Int) (a1: -2147483648<=a) (a2:a<2147483648) (b1: -2147483648<=b) (b2:b<2147483648) (w:World):
  Calls prog 234 #[.int .u8 op,.int .i32 a,.int .i32 b] w λen w'=>en= .returned (lX op a b)/\B_ w w':=by
 obtain rfl|rfl|rfl|rfl|rfl|rfl:=hop
 .go_in
  go_wp2_with fail;exact gC results234 rfl rfl rfl (aB rfl _) ⟨rfl,ag _ _ _⟩
 .go_in
  go_wp2_with fail;exact gC results234 rfl rfl rfl (aB rfl _) ⟨rfl,ag _ _ _⟩
 .go_in
  go_wp2_with fail;exact gC results234 rfl rfl rfl (aB rfl _) ⟨rfl,ag _ _ _⟩
 .rw[show lX 60 a b= .tuple #[bW (if decide (a<b)=true then .i 1 else .i 0),.int .i64 0]from by unfold lX oI;by_cases h:a<b<;>simp[h]];obtain⟨u,hu⟩: ∃u,(if decide (a<b)=true then V.i 1 else V.i 0)=u:=⟨_,rfl⟩;have HT:=hid (λw=>qa (decide (a<b)) w);rw[hu]at HT⊢;clear hu
  go_in
  go_wp2_with fail;refine(HT.out _).mono ?_;rintro en w1 ⟨rfl,a0⟩;simp only[bW];have a3:eK w1 w.heap.size:=eK.but ⟨0,0,aO w _⟩ a0 (λh=>h);have a4:B_ w w1:=(ag _ _ _).trans a0;obtain⟨K9,N9,r0,r1,f0,f1,a5⟩:=a3.parts;clear a0 HT;go_wp2_with fail;exact gC results234 rfl rfl rfl (a3.put _ _) ⟨rfl,a4.next (jt _ _ _ _) (λk hk e=>by have e:k=w.heap.size:=e;omega)⟩
 .rw[show lX 61 a b= .tuple #[bW (if decide (a=b)=true then .i 1 else .i 0),.int .i64 0]from by unfold lX oI;by_cases h:a=b<;>simp[h]];obtain⟨u,hu⟩: ∃u,(if decide (a=b)=true then V.i 1 else V.i 0)=u:=⟨_,rfl⟩;have HT:=hid (λw=>qa (decide (a=b)) w);rw[hu]at HT⊢;clear hu
  go_in
  go_wp2_with fail;refine(HT.out _).mono ?_;rintro en w1 ⟨rfl,a0⟩;simp only[bW];have a3:eK w1 w.heap.size:=eK.but ⟨0,0,aO w _⟩ a0 (λh=>h);have a4:B_ w w1:=(ag _ _ _).trans a0;obtain⟨K9,N9,r0,r1,f0,f1,a5⟩:=a3.parts;clear a0 HT;go_wp2_with fail;exact gC results234 rfl rfl rfl (a3.put _ _) ⟨rfl,a4.next (jt _ _ _ _) (λk hk e=>by have e:k=w.heap.size:=e;omega)⟩
 .by_cases h0:b=0
  .subst h0;rw[show lX 47 a 0= .tuple #[.agg #[.int .i32 0,.int .i64 0],.int .i64 3]from rfl]
   go_in
   go_wp2_with fail;exact gC results234 rfl rfl rfl (aB rfl _) ⟨rfl,ag _ _ _⟩
  .rw[show lX 47 a b= .tuple #[.agg #[.int .i32 (wrap32 (Int.tdiv a b)),.int .i64 0],.int .i64 0]from by unfold lX;rw[if_neg (by omega)];rfl];have a6:(b==0)=false:=by simpa using h0
   go_in
   go_wp2_with fail;exact gC results234 rfl rfl rfl (aB rfl _) ⟨rfl,ag _ _ _⟩
end
section
open Go Go.RowKit Sp
def XwC (w:World) (b tx:Nat) (inp:ByteArray) (r:Int) (vo vb:Value) (cn:Int):Prop:=
 w.heap[b]?=some (.cells #[.pointer (some ⟨tx,0,none⟩),.string inp,.int .i64 r,vo,vb,.int .i64 cn] 211)
section
variable {w:World} {b tx:Nat} {inp:ByteArray} {r:Int} {vo vb:Value} {cn:Int}
theorem XwC.lt (h:XwC w b tx inp r vo vb cn):b<w.heap.size:=ae h
theorem XwC.c3 (h:XwC w b tx inp r vo vb cn):w.cell? ⟨b,3,none⟩=some vo:=ce3 h
theorem XwC.fz (h:XwC w b tx inp r vo vb cn) (j:Nat):w.frozen? ⟨b,j,none⟩=false:=b7 w b j _ _ h
theorem XwC.but {F:Nat->Prop} {w':World} (h:XwC w b tx inp r vo vb cn) (hb:But F w w') (hf: ¬F b):XwC w' b tx inp r vo vb cn:=(hb.block b h.lt hf).trans h
theorem XwC.set3 (h:XwC w b tx inp r vo vb cn) (v:Value):XwC (w.setCell ⟨b,3,none⟩ v) b tx inp r v vb cn:=bG w b 3 _ _ _ h
end
def XoC (w:World) (g c:Nat) (v:Value) (sn:Int):Prop:=w.heap[g]?=some (.cells #[.int .u8 c,v,.int .i64 sn] 318)
def qb (gs:List Nat):List Value:=gs.map λg=> .pointer (some ⟨g,0,none⟩)
abbrev FrQ (P:Nat->Prop) (w0:World) (k:Nat):Prop:=w0.heap.size<=k/\ ¬P k
def Cv (bw:Nat) (vo vb:Value) (gs:List Nat) (fv:List Value) (k:Nat):Prop:=
 k=bw\/vo.ownBlock=some k\/vb.ownBlock=some k\/k∈gs\/ ∃v∈fv,v.ownBlock=some k
structure WdQ (P:Nat->Prop) (w0 w:World) (bw tx:Nat) (inp:ByteArray) (s:Ev) (vo vb:Value) (gs:List Nat) (fv:List Value) (cn:Int) (sn:Nat->Int):Prop where
 old:B_ w0 w
 wd:XwC w bw tx inp (min s.read inp.size:Nat) vo vb cn
 out:w.ownsRow w0.heap.size 5 1 vo s.out.length (Lib.byteCells s.out)
 ob:w.ownsRow w0.heap.size 315 1 vb s.heap.length (qb gs)
 lg:gs.length=s.heap.length
 lf:fv.length=s.heap.length
 obs: ∀(k:Nat) o g v,s.heap[k]?=some o->gs[k]?=some g->fv[k]?=some v->XoC w g (65+o.cls) v (sn k)/\w.ownsRow w0.heap.size 168 2 v o.fs.length (aJ o.fs)
 nd: ∀(j k:Nat) g,gs[j]?=some g->gs[k]?=some g->j=k
 own: ∀k,Cv bw vo vb gs fv k->w0.heap.size<=k/\ ¬P k
 pl: ∀k,P k->k<w.heap.size/\ ∀c fz,w.heap[k]?≠some (.cells c 5 fz)
 sf: ∀(j k:Nat) v v' g,fv[j]?=some v->fv[k]?=some v'->v.ownBlock=some g->v'.ownBlock=some g->j=k
 se:0<=cn/\ ∀k,0<=sn k/\sn k<=cn
theorem cE {w:World} {g k:Nat} {c c':Array Value} {t t':TypeId} {fr fr':Nat×Nat} (hk:w.heap[k]?=some (.cells c' t' fr')) (hg:w.heap[g]?=some (.cells c t fr)) (h:t≠t'):k≠g:=λe=>by
 subst e;rw[hk]at hg;injection hg with hg;injection hg with _ h2;exact h h2.symm
section
variable {P:Nat->Prop} {w0 w w':World} {bw tx:Nat} {inp:ByteArray} {s:Ev} {vo vb:Value} {gs:List Nat} {fv:List Value} {cn:Int} {sn:Nat->Int}
theorem WdQ.k2 (h:WdQ P w0 w bw tx inp s vo vb gs fv cn sn):w0.heap.size<=bw/\ ¬P bw:=h.own bw (Or.inl rfl)
theorem WdQ.k4 (h:WdQ P w0 w bw tx inp s vo vb gs fv cn sn) {g:Nat} (hg:vo.ownBlock=some g):w0.heap.size<=g/\ ¬P g:=h.own g (Or.inr (Or.inl hg))
theorem WdQ.k5 (h:WdQ P w0 w bw tx inp s vo vb gs fv cn sn) {g:Nat} (hg:vb.ownBlock=some g):w0.heap.size<=g/\ ¬P g:=h.own g (Or.inr (Or.inr (Or.inl hg)))
theorem WdQ.k7 (h:WdQ P w0 w bw tx inp s vo vb gs fv cn sn) {g:Nat} (hg:g∈gs):w0.heap.size<=g/\ ¬P g:=h.own g (Or.inr (Or.inr (Or.inr (Or.inl hg))))
theorem WdQ.k8 (h:WdQ P w0 w bw tx inp s vo vb gs fv cn sn) {v:Value} {g:Nat} (hv:v∈fv) (hg:v.ownBlock=some g):w0.heap.size<=g/\ ¬P g:=h.own g (Or.inr (Or.inr (Or.inr (Or.inr ⟨v,hv,hg⟩))))
theorem WdQ.obj (h:WdQ P w0 w bw tx inp s vo vb gs fv cn sn) {k:Nat} (hk:k<s.heap.length): ∃(o:Ob) (g:Nat) (v:Value),s.heap[k]?=some o/\gs[k]?=some g/\fv[k]?=some v/\XoC w g (65+o.cls) v (sn k)/\w.ownsRow w0.heap.size 168 2 v o.fs.length (aJ o.fs):=by
 have h1:=aH hk;have h2:=aH (show k<gs.length by rw[h.lg];exact hk);have h3:=aH (show k<fv.length by rw[h.lf];exact hk);exact⟨_,_,_,h1,h2,h3,(h.obs k _ _ _ h1 h2 h3).1,(h.obs k _ _ _ h1 h2 h3).2⟩
theorem WdQ.mg (h:WdQ P w0 w bw tx inp s vo vb gs fv cn sn) {g:Nat} (hg:g∈gs): ∃(c:Nat) (v:Value) (q:Int),XoC w g c v q:=by
 obtain⟨k,hk,rfl⟩:=List.getElem_of_mem hg;obtain⟨o,g',v,_,h2,_,h4,_⟩:=h.obj (by rw[<-h.lg];exact hk);rw[aH hk]at h2
 cases h2
 exact⟨_,_,_,h4⟩
theorem WdQ.mv (h:WdQ P w0 w bw tx inp s vo vb gs fv cn sn) {v:Value} (hv:v∈fv): ∃(n:Nat) (xs:List Value),w.ownsRow w0.heap.size 168 2 v n xs:=by
 obtain⟨k,hk,rfl⟩:=List.getElem_of_mem hv;obtain⟨o,g',v,_,_,h3,_,h5⟩:=h.obj (by rw[<-h.lf];exact hk);rw[aH hk]at h3
 cases h3
 exact⟨_,_,h5⟩
theorem WdQ.lt (h:WdQ P w0 w bw tx inp s vo vb gs fv cn sn) {k:Nat} (hk:Cv bw vo vb gs fv k):k<w.heap.size:=by
 obtain rfl|hk|hk|hk| ⟨v,hv,hk⟩:=hk
 .exact h.wd.lt
 .exact aW h.out k hk
 .exact aW h.ob k hk
 .obtain⟨c,v,q,ho⟩:=h.mg hk;exact ae ho
 .obtain⟨n,xs,ho⟩:=h.mv hv;exact aW ho k hk
theorem WdQ.but {F:Nat->Prop} (h:WdQ P w0 w bw tx inp s vo vb gs fv cn sn) (hB:But F w w') (h0: ∀k,F k->w0.heap.size<=k) (h1: ∀k,Cv bw vo vb gs fv k-> ¬F k) (hp: ∀k,P k-> ¬F k):WdQ P w0 w' bw tx inp s vo vb gs fv cn sn:=by
 refine⟨h.old.next hB (λk hk hf=>by have:=h0 k hf;omega),h.wd.but hB (h1 _ (Or.inl rfl)),aj h.out hB (λg hg=>h1 g (Or.inr (Or.inl hg))),aj h.ob hB (λg hg=>h1 g (Or.inr (Or.inr (Or.inl hg)))),h.lg,h.lf,λk o g v a b c=> ?_,h.nd,h.own,λk hk=> ?_,h.sf,h.se⟩
 .obtain⟨x,y⟩:=h.obs k o g v a b c;exact⟨(hB.block g (ae x) (h1 g (Or.inr (Or.inr (Or.inr (Or.inl (bp b))))))).trans x,aj y hB (λq hq=>h1 q (Or.inr (Or.inr (Or.inr (Or.inr ⟨v,bp c,hq⟩)))))⟩
 .obtain⟨a,b⟩:=h.pl k hk;refine⟨bq a hB.size,λc fz e=> ?_⟩;rw[hB.block k a (hp k hk)]at e;exact b c fz e
theorem WdQ.new (h:WdQ P w0 w bw tx inp s vo vb gs fv cn sn) (hB:B_ w w'):WdQ P w0 w' bw tx inp s vo vb gs fv cn sn:=h.but hB (λ_ h=>h.elim) (λ_ _ h=>h) (λ_ _ h=>h)
theorem WdQ.grow (h:WdQ P w0 w bw tx inp s vo vb gs fv cn sn) (hB:B_ w w') (ht: ∀k,w.heap.size<=k->k<w'.heap.size-> ∀c fz,w'.heap[k]?≠some (.cells c 5 fz)):WdQ (λk=>P k\/(w.heap.size<=k/\k<w'.heap.size)) w0 w' bw tx inp s vo vb gs fv cn sn:=by
 have h1:=h.new hB;refine⟨h1.old,h1.wd,h1.out,h1.ob,h1.lg,h1.lf,h1.obs,h1.nd,λk hk=>⟨(h1.own k hk).1,λhp=> ?_⟩,λk hk=> ?_,h1.sf,h1.se⟩
 .obtain hp|hp:=hp
  .exact(h1.own k hk).2 hp
  .have:=h.lt hk;omega
 .obtain hk|hk:=hk
  .exact h1.pl k hk
  .exact⟨hk.2,ht k hk.1 hk.2⟩
theorem WdQ.less {Q:Nat->Prop} (h:WdQ P w0 w bw tx inp s vo vb gs fv cn sn) (hs: ∀k,Q k->P k):WdQ Q w0 w bw tx inp s vo vb gs fv cn sn:=
 ⟨h.old,h.wd,h.out,h.ob,h.lg,h.lf,h.obs,h.nd,λk hk=>⟨(h.own k hk).1,λhp=>(h.own k hk).2 (hs k hp)⟩,λk hk=>h.pl k (hs k hk),h.sf,h.se⟩
theorem WdQ.left (h:WdQ P w0 w bw tx inp s vo vb gs fv cn sn) (n:Nat):WdQ P w0 w bw tx inp {s with left:=n} vo vb gs fv cn sn:=
 ⟨h.old,h.wd,h.out,h.ob,h.lg,h.lf,h.obs,h.nd,h.own,h.pl,h.sf,h.se⟩
theorem zk {w:World} {base n g j:Nat} {v:Value} {l:List V} (u:V) (h:w.ownsRow base 168 2 v n (aJ l)) (hg:v.ownBlock=some g):
  ((w.setCell ⟨g,j*2,none⟩ (.int .i32 (xN u))).setCell ⟨g,j*2+1,none⟩ (.int .i64 (xO u))).ownsRow base 168 2 v n (aJ (l.set j u)):=by
 have a0:=h.1;obtain⟨rfl,_⟩ | ⟨g',cap,cur,rfl,hb,hh,a1,a2,a3,a4⟩:=h.2
 .cases hg
 .simp[Value.ownBlock]at hg;subst hg;refine⟨by rw[<-a0,eD,eD];simp,Or.inr ⟨g',cap,(cur.setIfInBounds (j*2) (.int .i32 (xN u))).setIfInBounds (j*2+1) (.int .i64 (xO u)),rfl,hb,?_,a1,a2,by simpa using a3,?_⟩⟩
  .exact bG _ g' _ _ _ _ (bG _ g' _ _ _ _ hh)
  .rw[qI,<-a4];simp[List.take_set]
theorem WdQ.tmp {F:Nat->Prop} (h:WdQ P w0 w bw tx inp s vo vb gs fv cn sn) (hB:But F w w') (hF: ∀k,F k->P k/\w0.heap.size<=k) (ht: ∀k,F k-> ∀c fz,w'.heap[k]?≠some (.cells c 5 fz)):WdQ P w0 w' bw tx inp s vo vb gs fv cn sn:=by
 have h1: ∀k,Cv bw vo vb gs fv k-> ¬F k:=λk hk hf=>(h.own k hk).2 (hF k hf).1
 have a:=(h.less (Q:=λ_=>False) (λ_ h=>h.elim)).but hB (λk hf=>(hF k hf).2) h1 (λ_ h=>h.elim);refine⟨a.old,a.wd,a.out,a.ob,a.lg,a.lf,a.obs,a.nd,h.own,λk hk=> ?_,a.sf,a.se⟩;obtain⟨x,y⟩:=h.pl k hk;refine⟨bq x hB.size,λc fz e=> ?_⟩
 by_cases hf:F k
 .exact ht k hf c fz e
 .rw[hB.block k x hf]at e;exact y c fz e
end
def XwB (w:World) (b tx:Nat) (inp:ByteArray) (r:Int) (vo vb:Value):Prop:=
 w.heap[b]?=some (.cells #[.pointer (some ⟨tx,0,none⟩),.string inp,.int .i64 r,vo,vb,.int .i64 0] 211)
section
variable {w:World} {b tx:Nat} {inp:ByteArray} {r:Int} {vo vb:Value}
theorem XwB.lt (h:XwB w b tx inp r vo vb):b<w.heap.size:=ae h
theorem XwB.c3 (h:XwB w b tx inp r vo vb):w.cell? ⟨b,3,none⟩=some vo:=ce3 h
theorem XwB.but {F:Nat->Prop} {w':World} (h:XwB w b tx inp r vo vb) (hb:But F w w') (hf: ¬F b):XwB w' b tx inp r vo vb:=(hb.block b h.lt hf).trans h
end
def XeB (w:World) (b tx bw:Nat) (f:Int):Prop:=w.heap[b]?=some (.cells #[.pointer (some ⟨tx,0,none⟩),.pointer (some ⟨bw,0,none⟩),.int .i64 f] 164)
section
variable {w:World} {b tx bw:Nat} {f:Int}
theorem XeB.lt (h:XeB w b tx bw f):b<w.heap.size:=ae h
theorem XeB.c0 (h:XeB w b tx bw f):w.cell? ⟨b,0,none⟩=some (.pointer (some ⟨tx,0,none⟩)):=ce0 h
theorem XeB.c1 (h:XeB w b tx bw f):w.cell? ⟨b,1,none⟩=some (.pointer (some ⟨bw,0,none⟩)):=ce1 h
theorem XeB.c2 (h:XeB w b tx bw f):w.cell? ⟨b,2,none⟩=some (.int .i64 f):=ce2 h
theorem XeB.fz (h:XeB w b tx bw f) (j:Nat):w.frozen? ⟨b,j,none⟩=false:=b7 w b j _ _ h
theorem XeB.but {F:Nat->Prop} {w':World} (h:XeB w b tx bw f) (hb:But F w w') (hf: ¬F b):XeB w' b tx bw f:=(hb.block b h.lt hf).trans h
theorem XeB.set2 (h:XeB w b tx bw f) (n:Int):XeB (w.setCell ⟨b,2,none⟩ (.int .i64 n)) b tx bw n:=bG w b 2 _ _ _ h
end
def XoB (w:World) (g c:Nat) (v:Value):Prop:=w.heap[g]?=some (.cells #[.int .u8 c,v,.int .i64 0] 318)
def Bd (be bw bl:Nat) (vo vb lv:Value) (gs:List Nat) (fv:List Value) (k:Nat):Prop:=
 k=be\/k=bw\/k=bl\/vo.ownBlock=some k\/vb.ownBlock=some k\/lv.ownBlock=some k\/k∈gs\/ ∃v∈fv,v.ownBlock=some k
structure StQ (P:Nat->Prop) (w0 w:World) (be bw tx:Nat) (inp:ByteArray) (s:Ev) (bl:Nat) (lv:Value) (l:List V) (vo vb:Value) (gs:List Nat) (fv:List Value):Prop where
 old:B_ w0 w
 ev:XeB w be tx bw s.left
 wd:XwB w bw tx inp (min s.read inp.size:Nat) vo vb
 out:w.ownsRow w0.heap.size 5 1 vo s.out.length (Lib.byteCells s.out)
 ob:w.ownsRow w0.heap.size 315 1 vb s.heap.length (qb gs)
 lg:gs.length=s.heap.length
 lf:fv.length=s.heap.length
 obs: ∀(k:Nat) o g v,s.heap[k]?=some o->gs[k]?=some g->fv[k]?=some v->XoB w g (65+o.cls) v/\w.ownsRow w0.heap.size 168 2 v o.fs.length (aJ o.fs)
 nd: ∀(j k:Nat) g,gs[j]?=some g->gs[k]?=some g->j=k
 lb:w.heap[bl]?=some (.cells #[lv] 280)
 lo:w.ownsRow w0.heap.size 168 2 lv l.length (aJ l)
 own: ∀k,Bd be bw bl vo vb lv gs fv k->w0.heap.size<=k/\ ¬P k
 pl: ∀k,P k->k<w.heap.size/\ ∀c fz,w.heap[k]?≠some (.cells c 5 fz)
 sl: ∀v∈fv,∀g,v.ownBlock=some g->lv.ownBlock≠some g
 sf: ∀(j k:Nat) v v' g,fv[j]?=some v->fv[k]?=some v'->v.ownBlock=some g->v'.ownBlock=some g->j=k
section
variable {P:Nat->Prop} {w0 w w':World} {be bw tx bl:Nat} {inp:ByteArray} {s:Ev} {lv vo vb:Value} {l:List V} {gs:List Nat} {fv:List Value}
theorem StQ.k1 (h:StQ P w0 w be bw tx inp s bl lv l vo vb gs fv):w0.heap.size<=be/\ ¬P be:=h.own be (Or.inl rfl)
theorem StQ.k6 (h:StQ P w0 w be bw tx inp s bl lv l vo vb gs fv) {g:Nat} (hg:lv.ownBlock=some g):w0.heap.size<=g/\ ¬P g:=h.own g (Or.inr (Or.inr (Or.inr (Or.inr (Or.inr (Or.inl hg))))))
theorem StQ.obj (h:StQ P w0 w be bw tx inp s bl lv l vo vb gs fv) {k:Nat} (hk:k<s.heap.length): ∃(o:Ob) (g:Nat) (v:Value),s.heap[k]?=some o/\gs[k]?=some g/\fv[k]?=some v/\XoB w g (65+o.cls) v/\w.ownsRow w0.heap.size 168 2 v o.fs.length (aJ o.fs):=by
 have h1:=aH hk;have h2:=aH (show k<gs.length by rw[h.lg];exact hk);have h3:=aH (show k<fv.length by rw[h.lf];exact hk);exact⟨_,_,_,h1,h2,h3,(h.obs k _ _ _ h1 h2 h3).1,(h.obs k _ _ _ h1 h2 h3).2⟩
theorem StQ.mg (h:StQ P w0 w be bw tx inp s bl lv l vo vb gs fv) {g:Nat} (hg:g∈gs): ∃(c:Nat) (v:Value),XoB w g c v:=by
 obtain⟨k,hk,rfl⟩:=List.getElem_of_mem hg;obtain⟨o,g',v,_,h2,_,h4,_⟩:=h.obj (by rw[<-h.lg];exact hk);rw[aH hk]at h2
 cases h2
 exact⟨_,_,h4⟩
theorem StQ.mv (h:StQ P w0 w be bw tx inp s bl lv l vo vb gs fv) {v:Value} (hv:v∈fv): ∃(n:Nat) (xs:List Value),w.ownsRow w0.heap.size 168 2 v n xs:=by
 obtain⟨k,hk,rfl⟩:=List.getElem_of_mem hv;obtain⟨o,g',v,_,_,h3,_,h5⟩:=h.obj (by rw[<-h.lf];exact hk);rw[aH hk]at h3
 cases h3
 exact⟨_,_,h5⟩
theorem StQ.lt (h:StQ P w0 w be bw tx inp s bl lv l vo vb gs fv) {k:Nat} (hk:Bd be bw bl vo vb lv gs fv k):k<w.heap.size:=by
 obtain rfl|rfl|rfl|hk|hk|hk|hk| ⟨v,hv,hk⟩:=hk
 .exact h.ev.lt
 .exact h.wd.lt
 .exact ae h.lb
 .exact aW h.out k hk
 .exact aW h.ob k hk
 .exact aW h.lo k hk
 .obtain⟨c,v,ho⟩:=h.mg hk;exact ae ho
 .obtain⟨n,xs,ho⟩:=h.mv hv;exact aW ho k hk
theorem StQ.but {F:Nat->Prop} (h:StQ P w0 w be bw tx inp s bl lv l vo vb gs fv) (hB:But F w w') (h0: ∀k,F k->w0.heap.size<=k) (h1: ∀k,Bd be bw bl vo vb lv gs fv k-> ¬F k) (hp: ∀k,P k-> ¬F k):StQ P w0 w' be bw tx inp s bl lv l vo vb gs fv:=by
 refine⟨h.old.next hB (λk hk hf=>by have:=h0 k hf;omega),h.ev.but hB (h1 _ (Or.inl rfl)),h.wd.but hB (h1 _ (Or.inr (Or.inl rfl))),aj h.out hB (λg hg=>h1 g (Or.inr (Or.inr (Or.inr (Or.inl hg))))),aj h.ob hB (λg hg=>h1 g (Or.inr (Or.inr (Or.inr (Or.inr (Or.inl hg)))))),h.lg,h.lf,λk o g v a b c=> ?_,h.nd,(hB.block bl (ae h.lb) (h1 _ (Or.inr (Or.inr (Or.inl rfl))))).trans h.lb,aj h.lo hB (λg hg=>h1 g (Or.inr (Or.inr (Or.inr (Or.inr (Or.inr (Or.inl hg))))))),h.own,λk hk=> ?_,h.sl,h.sf⟩
 .obtain⟨x,y⟩:=h.obs k o g v a b c;exact⟨(hB.block g (ae x) (h1 g (Or.inr (Or.inr (Or.inr (Or.inr (Or.inr (Or.inr (Or.inl (bp b)))))))))).trans x,aj y hB (λq hq=>h1 q (Or.inr (Or.inr (Or.inr (Or.inr (Or.inr (Or.inr (Or.inr ⟨v,bp c,hq⟩))))))))⟩
 .obtain⟨a,b⟩:=h.pl k hk;refine⟨bq a hB.size,λc fz e=> ?_⟩;rw[hB.block k a (hp k hk)]at e;exact b c fz e
theorem StQ.new (h:StQ P w0 w be bw tx inp s bl lv l vo vb gs fv) (hB:B_ w w'):StQ P w0 w' be bw tx inp s bl lv l vo vb gs fv:=h.but hB (λ_ h=>h.elim) (λ_ _ h=>h) (λ_ _ h=>h)
theorem StQ.grow (h:StQ P w0 w be bw tx inp s bl lv l vo vb gs fv) (hB:B_ w w') (ht: ∀k,w.heap.size<=k->k<w'.heap.size-> ∀c fz,w'.heap[k]?≠some (.cells c 5 fz)):StQ (λk=>P k\/(w.heap.size<=k/\k<w'.heap.size)) w0 w' be bw tx inp s bl lv l vo vb gs fv:=by
 have h1:=h.new hB;refine⟨h1.old,h1.ev,h1.wd,h1.out,h1.ob,h1.lg,h1.lf,h1.obs,h1.nd,h1.lb,h1.lo,λk hk=>⟨(h1.own k hk).1,λhp=> ?_⟩,λk hk=> ?_,h1.sl,h1.sf⟩
 .obtain hp|hp:=hp
  .exact(h1.own k hk).2 hp
  .have:=h.lt hk;omega
 .obtain hk|hk:=hk
  .exact h1.pl k hk
  .exact⟨hk.2,ht k hk.1 hk.2⟩
theorem StQ.less {Q:Nat->Prop} (h:StQ P w0 w be bw tx inp s bl lv l vo vb gs fv) (hs: ∀k,Q k->P k):StQ Q w0 w be bw tx inp s bl lv l vo vb gs fv:=
 ⟨h.old,h.ev,h.wd,h.out,h.ob,h.lg,h.lf,h.obs,h.nd,h.lb,h.lo,λk hk=>⟨(h.own k hk).1,λhp=>(h.own k hk).2 (hs k hp)⟩,λk hk=>h.pl k (hs k hk),h.sl,h.sf⟩
structure El (P:Nat->Prop) (w0 w':World) (be bw tx:Nat) (inp:ByteArray) (s:Ev) (bl:Nat) (lv:Value) (l:List V) (vo vb:Value) (gs:List Nat) (fv:List Value) (t:TypeId):Prop where
 old:B_ w0 w'
 ev:t≠164->XeB w' be tx bw s.left
 wd:t≠211->XwB w' bw tx inp (min s.read inp.size:Nat) vo vb
 out:t≠5->w'.ownsRow w0.heap.size 5 1 vo s.out.length (Lib.byteCells s.out)
 ob:t≠315->w'.ownsRow w0.heap.size 315 1 vb s.heap.length (qb gs)
 obj:t≠318-> ∀(k:Nat) o g v,s.heap[k]?=some o->gs[k]?=some g->fv[k]?=some v->XoB w' g (65+o.cls) v
 fld:t≠168-> ∀(k:Nat) o g v,s.heap[k]?=some o->gs[k]?=some g->fv[k]?=some v->w'.ownsRow w0.heap.size 168 2 v o.fs.length (aJ o.fs)
 lb:t≠280->w'.heap[bl]?=some (.cells #[lv] 280)
 lo:t≠168->w'.ownsRow w0.heap.size 168 2 lv l.length (aJ l)
 pl: ∀k,P k->k<w'.heap.size/\ ∀c fz,w'.heap[k]?≠some (.cells c 5 fz)
theorem StQ.stand (h:StQ P w0 w be bw tx inp s bl lv l vo vb gs fv) {g:Nat} {c:Array Value} {t:TypeId} {fr:Nat×Nat} (hg:w.heap[g]?=some (.cells c t fr)) (hg0:w0.heap.size<=g) (hgp: ¬P g) (hB:But (· =g) w w'):El P w0 w' be bw tx inp s bl lv l vo vb gs fv t:=by
 refine⟨h.old.next hB (λk hk e=>by have e:k=g:=e;omega),λht=>h.ev.but hB (cE h.ev hg ht),λht=>h.wd.but hB (cE h.wd hg ht),λht=>aj h.out hB (λk hk e=>aL h.out hg (Ne.symm ht) (e▸hk)),λht=>aj h.ob hB (λk hk e=>aL h.ob hg (Ne.symm ht) (e▸hk)),λht k o q v a b d=> ?_,λht k o q v a b d=> ?_,λht=>(hB.block bl (ae h.lb) (cE h.lb hg ht)).trans h.lb,λht=>aj h.lo hB (λk hk e=>aL h.lo hg (Ne.symm ht) (e▸hk)),λk hk=> ?_⟩
 .have x:=(h.obs k o q v a b d).1;exact(hB.block q (ae x) (cE x hg ht)).trans x
 .have y:=(h.obs k o q v a b d).2;exact aj y hB (λj hj e=>aL y hg (Ne.symm ht) (e▸hj))
 .obtain⟨a,b⟩:=h.pl k hk;refine⟨bq a hB.size,λc fz e=> ?_⟩;rw[hB.block k a (λe=>hgp (e▸hk))]at e;exact b c fz e
theorem StQ.fuel (h:StQ P w0 w be bw tx inp s bl lv l vo vb gs fv) (n:Nat):StQ P w0 (w.setCell ⟨be,2,none⟩ (.int .i64 n)) be bw tx inp {s with left:=n} bl lv l vo vb gs fv:=by
 have a:=h.stand h.ev h.k1.1 h.k1.2 (au w be 2 (.int .i64 n));exact⟨a.old,h.ev.set2 _,a.wd (by decide),a.out (by decide),a.ob (by decide),h.lg,h.lf,λk o g v x y z=>⟨a.obj (by decide) k o g v x y z,a.fld (by decide) k o g v x y z⟩,h.nd,a.lb (by decide),a.lo (by decide),h.own,a.pl,h.sl,h.sf⟩
theorem StQ.setL (h:StQ P w0 w be bw tx inp s bl lv l vo vb gs fv) {g:Nat} (hg:lv.ownBlock=some g) (j:Nat) (u:V):StQ P w0 ((w.setCell ⟨g,j*2,none⟩ (.int .i32 (xN u))).setCell ⟨g,j*2+1,none⟩ (.int .i64 (xO u))) be bw tx inp s bl lv (l.set j u) vo vb gs fv:=by
 have hB:But (· =g) w ((w.setCell ⟨g,j*2,none⟩ (.int .i32 (xN u))).setCell ⟨g,j*2+1,none⟩ (.int .i64 (xO u))):=(au _ _ _ _).trans (au _ _ _ _);obtain⟨cur,a0⟩:=fT h.lo hg;have a:=h.stand a0 (h.k6 hg).1 (h.k6 hg).2 hB;refine⟨a.old,a.ev (by decide),a.wd (by decide),a.out (by decide),a.ob (by decide),h.lg,h.lf,λk o q v x y z=>⟨a.obj (by decide) k o q v x y z,aj (h.obs k o q v x y z).2 hB (λi hi e=>h.sl v (bp z) i hi (e▸hg))⟩,h.nd,a.lb (by decide),?_,h.own,a.pl,h.sl,h.sf⟩;rw[List.length_set];exact zk u h.lo hg
theorem StQ.tmp {F:Nat->Prop} (h:StQ P w0 w be bw tx inp s bl lv l vo vb gs fv) (hB:But F w w') (hF: ∀k,F k->P k/\w0.heap.size<=k) (ht: ∀k,F k-> ∀c fz,w'.heap[k]?≠some (.cells c 5 fz)):StQ P w0 w' be bw tx inp s bl lv l vo vb gs fv:=by
 have h1: ∀k,Bd be bw bl vo vb lv gs fv k-> ¬F k:=λk hk hf=>(h.own k hk).2 (hF k hf).1
 have a:=(h.less (Q:=λ_=>False) (λ_ h=>h.elim)).but hB (λk hf=>(hF k hf).2) h1 (λ_ h=>h.elim);refine⟨a.old,a.ev,a.wd,a.out,a.ob,a.lg,a.lf,a.obs,a.nd,a.lb,a.lo,h.own,λk hk=> ?_,a.sl,a.sf⟩;obtain⟨x,y⟩:=h.pl k hk;refine⟨bq x hB.size,λc fz e=> ?_⟩
 by_cases hf:F k
 .exact ht k hf c fz e
 .rw[hB.block k x hf]at e;exact y c fz e
end
end
section
open Go Go.RowKit Sp
attribute [local go_sem ↓] dG dH
theorem C0 {fn:Func} {Rr:Ending->World->Prop} {a:Act} {w:World} {c r:Nat} {K N:Int} (hf:fn.results=#[.cell c 168]) (hd:a.defers=[]) (hc:a.tmps.getD c undef= .pointer (some ⟨r,0,none⟩))
  (h0:w.heap[r]?=some (.cells #[.int .i32 K,.int .i64 N] 168)) (hR:Rr (.returned (.agg #[.int .i32 K,.int .i64 N])) w):bodyPost prog fn Rr .ret a w:=by
 have r0:=ce0 h0;have r1:=ce1 h0;refine cW (v:= .agg #[.int .i32 K,.int .i64 N]) ?_ hd hR;have a0:a.tmps[c]?.getD undef= .pointer (some ⟨r,0,none⟩):=by simpa using hc
 simp[results,hf,a0,go_sem,r0,r1]
section
variable {P:Nat->Prop} {w0 w:World} {be bw tx bl:Nat} {inp:ByteArray} {s:Ev} {lv vo vb:Value} {l:List V} {gs:List Nat} {fv:List Value}
theorem Cw (h:StQ P w0 w be bw tx inp s bl lv l vo vb gs fv) (j:Nat) (u:V) (hu:l[j]?=some u):
  Calls prog 196 #[.pointer (some ⟨bl,0,none⟩),.int .i64 j] w λen w'=>en= .returned (bW u)/\B_ w w':=by
 have hj:=(bC hu).1;obtain⟨al,capl,rfl⟩:=aw h.lo;obtain⟨g,rfl,a2,a3,a0⟩:=aF h.lo (by omega);have q0:w.cell? ⟨g,j*2,none⟩=some (.int .i32 (xN u)):=a0 _ _ (fa (k:=0) hu (by omega));have q1:w.cell? ⟨g,j*2+1,none⟩=some (.int .i64 (xO u)):=a0 _ _ (fa (k:=1) hu (by omega));have hb:=h.lb;have b0:=ce0 hb;have a1:=ae hb;have a5: ¬((l.length:Int)<=(j:Int)):=by omega
 have a6:((j:Int))<(l.length:Int):=by omega
 have a4: ¬((j:Int)<0):=by omega
 clear a0 hu hb;generalize l.length=nl at*
 go_in
 go_wp2_with fail;exact C0 results196 rfl rfl (aB rfl _) ⟨rfl,ag _ _ _⟩
theorem Cx (h:StQ P w0 w be bw tx inp s bl lv l vo vb gs fv) (j:Nat) (u:V) (hj:j<l.length):
  Calls prog 194 #[.pointer (some ⟨bl,0,none⟩),.int .i64 j,bW u] w λen w'=>en= .returned (.tuple #[])/\But (λk=>w0.heap.size<=k/\ ¬P k) w w'/\StQ P w0 w' be bw tx inp s bl lv (l.set j u) vo vb gs fv:=by
 unfold bW;obtain⟨al,capl,rfl⟩:=aw h.lo;obtain⟨g,rfl,a5,b2,a0⟩:=aF h.lo (by omega);obtain⟨u',hu⟩: ∃u',l[j]?=some u':=⟨_,aH hj⟩;have q0:w.cell? ⟨g,j*2,none⟩=some (.int .i32 (xN u')):=a0 _ _ (fa (k:=0) hu (by omega));have q1:w.cell? ⟨g,j*2+1,none⟩=some (.int .i64 (xO u')):=a0 _ _ (fa (k:=1) hu (by omega));obtain⟨cur,a1⟩:=fT h.lo (g:=g) rfl;have z0:=b7 w g (j*2) _ _ a1;have z1:=b7 w g (j*2+1) _ _ a1;have hb:=h.lb;have b0:=ce0 hb;have a8:=ae hb;have a7:=(h.k6 (g:=g) rfl);have b4:((j:Int))<(l.length:Int):=by omega
 have b3:0<=(j:Int):=by omega
 clear a0 hu hb a1;generalize l.length=nl at*
 go_in
 go_wp2_with fail;have a4:B_ w (w.alloc (.cells #[.int .i32 (xN u),.int .i64 (xO u)] 168)):=ag _ _ _;have a3:=aO w (.cells #[.int .i32 (xN u),.int .i64 (xO u)] 168);revert a4 a3;generalize (w.alloc (.cells #[.int .i32 (xN u),.int .i64 (xO u)] 168))=W;intro a4 a3;have a6:B_ W W.drew:=aD _ _;have y0:=ce0 a3;have y1:=ce1 a3;have b1:=a4.kc b0 a8;have m1:=ae a3;have m2:bl<W.heap.size:=by omega
 have a2:=a4.trans a6;have p0:=a2.kc q0 a5;have p1:=a2.kc q1 a5;have p2:=a2.kz z0 a5;have p3:=a2.kz z1 a5;have HP:=hid (And.intro p0 (And.intro p1 (And.intro p2 p3)));clear p0 p1 p2 p3 q0 q1 z0 z1 b0;refine aI (B_ W) 7 ?_
 iterate 7 (refine aQ (v:=?_) rfl a6 ?_ ?_;rotate_left;(focus (intro wS h;have q0:=(h.kc b1 m2);have q1:=(h.kc y0 m1);have q2:=(h.kc y1 m1);clear h;go_simp;try rfl));dsimp only[Act.put];try simp only[cH])
 obtain⟨p0,p1,p2,p3⟩:=HP.out;have HS:=hid (λX (hX:B_ w X)=>(h.new hX).setL (g:=g) rfl j u);clear y0 y1 b1 a6 HP;generalize W.drew=wd at*;refine az rfl ?_;intro KS hKS;go_simp;refine hKS.out _ _ nofun ?_;clear hKS KS;refine aR rfl ?_;go_end0;exact⟨rfl,(a2.mono (λ_ _ h=>h.elim)).trans ((But.setCell wd (a:=⟨g,j*2,none⟩) (F:=λk=>w0.heap.size<=k/\ ¬P k) a7 _).trans (But.setCell _ (a:=⟨g,j*2+1,none⟩) a7 _)),HS.out wd a2⟩
end
theorem uO:(prog.info? 168).map (λi=>(i.zero,i.size,i.bytes))=some (some (.agg #[.int .i32 0,.int .i64 0]),2,16):=by kernel_rfl
def i8 (n:Nat):List Value:=(List.replicate n [Value.int .i32 0,.int .i64 0]).flatten
theorem Be (n:Nat):madeCells #[.int .i32 0,.int .i64 0] (n*2)=(i8 n).toArray:=by
 apply Array.ext
 .rw[size_madeCells];simp[i8]
 .intro k h1 h2;rw[size_madeCells]at h1;have hk:k<n*2:=by simpa using h1
  have key: ∀(n k:Nat),k<n*2->(i8 n)[k]?=some (if k % 2=0 then Value.int .i32 0 else .int .i64 0):=by
   intro n
   induction n with
   |zero=>intro k h;omega
   |succ n ih=>
    intro k h
    match k,h with
    |0,_=>simp[i8,List.replicate_succ]
    |1,_=>simp[i8,List.replicate_succ]
    |k+2,h=>
     have:=ih k (by omega);simp only[i8,List.replicate_succ,List.flatten_cons,List.cons_append,List.nil_append,List.getElem?_cons_succ]at this⊢;rw[this];simp[Nat.add_mod]
  have:=key n k hk;have a0:(i8 n)[k]?=some ((i8 n).toArray[k]):=by simp
  rw[a0]at this;have e:=Option.some.inj this;rw[e];obtain hm|hm:=Nat.mod_two_eq_zero_or_one k<;>simp[madeCells,hm]
theorem Bf (n:Nat) (hn:n<=1000) (w:World):(Instr.makeSlice 213 (.int .i64 (n:Int)) (.int .i64 (n:Int))).run prog w= .ok (.slice (some ⟨w.heap.size,0,none⟩) n n) (w.alloc (.cells (i8 n).toArray 168)):=by
 have a0:=uO
 cases hi:prog.info? 168 with
 |none=>rw[hi]at a0;cases a0
 |some i=>
  rw[hi]at a0;simp only[Option.map_some,Option.some.injEq,Prod.mk.injEq]at a0;obtain⟨hz,hs,hb⟩:=a0;have:=run_make (P:=prog) w 213 168 i _ (by kernel_rfl) hi hz .i64 .i64 n n (by omega) (by omega) (by rw[hb];omega) (by omega);rw[this,hs];simp only[Int.toNat_natCast,Value.cells];rw[Be]
theorem wG (ts:L_):i8 ts.length=aJ (ts.map dc):=by
 induction ts with
 |nil=>rfl
 |cons t ts ih=>
  obtain⟨h1,h2⟩:=DD t;simp only[i8,aJ]at ih;simp[i8,List.replicate_succ,aJ,ku,h1,h2,ih]
theorem Bg {w:World} {g base:Nat} {ts:L_} (hb:base<=g) (hg:w.heap[g]?=some (.cells (i8 ts.length).toArray 168)) (hl:ts.length<=1000):w.ownsRow base 168 2 (.slice (some ⟨g,0,none⟩) ts.length ts.length) ts.length (aJ (ts.map dc)):=by
 have hz:=wG ts;have hn:(i8 ts.length).length=ts.length*2:=by rw[hz,eD];simp
 refine⟨by rw[eD];simp,Or.inr ⟨g,ts.length,(i8 ts.length).toArray,rfl,hb,hg,b8 _,by unfold maxLen;omega,by simpa using hn,?_⟩⟩;rw[<-hz];simp only;rw[List.take_of_length_le (by omega)]
section
variable {P:Nat->Prop} {w0 w:World} {be bw tx bl:Nat} {inp:ByteArray} {s:Ev} {lv vo vb:Value} {l:List V} {gs:List Nat} {fv:List Value}
theorem lY (b:UInt8) (m:Int) (a:UInt8) (lo:L_) (al:Option Addr) (capl:Nat) (ai:Option Addr) (ni ci:Nat) (w:World) (hl:lo.length<=5):
  Calls prog 138 #[.agg #[.int .u8 b.toNat,.int .i64 m,.int .u8 a.toNat,.slice al lo.length capl,.slice ai ni ci]] w λen w'=> ∃(bl:Nat) (lv:Value),en= .returned (.pointer (some ⟨bl,0,none⟩))/\B_ w w'/\w'.heap[bl]?=some (.cells #[lv] 280)/\w'.ownsRow w.heap.size 168 2 lv lo.length (aJ (lo.map dc))/\w.heap.size<=bl:=by
 have a0:=Bf lo.length (by omega)
 go_in
 go_wp2_with fail;go_ret;refine⟨w.heap.size+1+1,.slice (some ⟨w.heap.size+1,0,none⟩) lo.length lo.length,rfl,((ag _ _ _).trans (ag _ _ _)).trans (ag _ _ _),aB (by simp) _,?_,by omega⟩;refine Bg (by omega) (((ag (λ_=>False) _ _).block _ (by simp) (λh=>h)).trans (aB (by simp) _)) (by omega)
end
theorem Bh:(prog.info? 5).map (λi=>(i.zero,i.size,i.bytes))=some (some (.int .u8 0),1,1):=by kernel_rfl
theorem zl {w w':World} (h:B_ w w'):Below w.heap.size w w':=h.toBelow (b8 _) (λ_ h=>h.elim)
section
variable {P:Nat->Prop} {w0 w w':World} {be bw tx bl:Nat} {inp:ByteArray} {s:Ev} {lv vo vb:Value} {l:List V} {gs:List Nat} {fv:List Value}
structure dE (w0 w w':World):Prop where
 bel:Below w0.heap.size w w'
 kept: ∀(k:Nat) o,w.heap[k]?=some o->(∀c fz,o≠ .cells c 5 fz)->w'.heap[k]?=some o
theorem dE.grown {X w2:World} {v:Value} {n:Nat} {xs:List Value} (h0:w0.heap.size<=X.heap.size) (ho:X.ownsRow w0.heap.size 5 1 v n xs) (hB:But (λk=>v.ownBlock=some k) X w2):dE w0 X w2:=by
 refine⟨⟨hB.os,hB.tape,hB.output,hB.size,λk hk=> ?_⟩,λk o hk hn=> ?_⟩
 .exact hB.block k (by omega) (λhv=>by have:=ay ho k hv;omega)
 .refine(hB.block k (ae hk) (λhv=> ?_)).trans hk;obtain⟨cur,hc⟩:=fT ho hv;rw[hk]at hc
  cases hc
  exact hn _ _ rfl
end
def ReV (P:Nat->Prop) (w0 w:World) (be bw tx:Nat) (inp:ByteArray) (bl:Nat) (lv:Value) (r:R) (en:Ending) (w':World):Prop:=
 But (FrQ P w0) w w'/\ ∃vo vb gs fv,match r with
 | .ok u l s=>en= .returned (.tuple #[bW u,.int .i64 0])/\StQ P w0 w' be bw tx inp s bl lv l vo vb gs fv
 | .bad e o=>en= .returned (.tuple #[.agg #[.int .i32 0,.int .i64 0],.int .i64 (cD e)])/\ ∃s l,s.out=o/\StQ P w0 w' be bw tx inp s bl lv l vo vb gs fv
structure NB (w X:World):Prop where
 but:B_ w X
 nb: ∀k,w.heap.size<=k->k<X.heap.size-> ∀c fz,X.heap[k]?≠some (.cells c 5 fz)
theorem NB.refl (w:World):NB w w:=⟨But.refl _ _,λk h1 h2=>by omega⟩
theorem NB.alloc {w X:World} {c:Array Value} {t:Nat} (h:NB w X) (ht:t≠5):NB w (X.alloc (.cells c t)):=by
 refine⟨h.but.trans (ag _ _ _),λk h1 h2 c' fz e=> ?_⟩;have h2:k<X.heap.size+1:=by simpa using h2
 obtain h3|h3:=Nat.lt_or_ge k X.heap.size
 .rw[(ag (λ_=>False) X _).block k h3 (λh=>h)]at e;exact h.nb k h1 h3 c' fz e
 .have:k=X.heap.size:=by omega
  subst this;rw[aO]at e
  cases e
  exact ht rfl
theorem uP {w:World} {c1 c2 c3 c4:Array Value}:NB w ((((w.alloc (.cells c1 219)).alloc (.cells c2 168)).alloc (.cells c3 168)).alloc (.cells c4 168)):=
 ((((NB.refl w).alloc (by decide)).alloc (by decide)).alloc (by decide)).alloc (by decide)
section
variable {P:Nat->Prop} {w0 w:World} {be bw tx bl:Nat} {inp:ByteArray} {s:Ev} {lv vo vb:Value} {l:List V} {gs:List Nat} {fv:List Value}
abbrev PQ (P:Nat->Prop) (w X:World) (k:Nat):Prop:=P k\/(w.heap.size<=k/\k<X.heap.size)
theorem StQ.grown {X:World} (h:StQ P w0 w be bw tx inp s bl lv l vo vb gs fv) (hN:NB w X):StQ (PQ P w X) w0 X be bw tx inp s bl lv l vo vb gs fv:=h.grow hN.but hN.nb
theorem StQ.fin {X X':World} {r:Nat} (hN:NB w X) (h0:w0.heap.size<=w.heap.size) (hs:StQ (PQ P w X) w0 X' be bw tx inp s bl lv l vo vb gs fv) (hB:But (FrQ (PQ P w X) w0) X X') (hr:w.heap.size<=r) (hx:eK X r) (a b:Int):
  eK X' r/\But (FrQ P w0) w ((X'.setCell ⟨r,0,none⟩ (.int .i32 a)).setCell ⟨r,1,none⟩ (.int .i64 b))/\StQ P w0 ((X'.setCell ⟨r,0,none⟩ (.int .i32 a)).setCell ⟨r,1,none⟩ (.int .i64 b)) be bw tx inp s bl lv l vo vb gs fv:=by
 have a0:r<X.heap.size:=by obtain⟨K,N,hx⟩:=hx;exact ae hx
 have a1:eK X' r:=hx.but hB (λhf=>hf.2 (Or.inr ⟨hr,a0⟩));refine⟨a1,?_,?_⟩
 .refine((hN.but.mono (λ_ _ h=>h.elim)).trans (hB.mono (λk hk hf=>⟨hf.1,λhp=>hf.2 (Or.inl hp)⟩))).next (jt _ _ _ _) (λk hk e=>by have e:k=r:=e;omega)
 .refine(hs.tmp (F:=(· =r)) (jt _ _ _ _) (λk e=>by have e:k=r:=e;subst e;exact⟨Or.inr ⟨hr,a0⟩,by omega⟩) (λk e c fz he=> ?_)).less (λk hp=>Or.inl hp);have e:k=r:=e;subst e;rw[a1.put]at he
  cases he
theorem StQ.fin0 {X X':World} {r:Nat} (h:StQ P w0 w be bw tx inp s bl lv l vo vb gs fv) (hN:NB w X) (hB:B_ X X') (hr:w.heap.size<=r) (hx:eK X r) (a b:Int):
  eK X' r/\But (FrQ P w0) w ((X'.setCell ⟨r,0,none⟩ (.int .i32 a)).setCell ⟨r,1,none⟩ (.int .i64 b))/\StQ P w0 ((X'.setCell ⟨r,0,none⟩ (.int .i32 a)).setCell ⟨r,1,none⟩ (.int .i64 b)) be bw tx inp s bl lv l vo vb gs fv:=
 StQ.fin hN h.old.size ((h.grown hN).new hB) (hB.mono (λ_ _ h=>h.elim)) hr hx a b
end
theorem gZ {fn:Func} {Rr:Ending->World->Prop} {a:Act} {w:World} {c f:Nat} {u v:Value} (hf:fn.results=#[.tmp c,.tmp f]) (hd:a.defers=[]) (hc:a.tmps.getD c undef=u) (he:a.tmps.getD f undef=v) (hR:Rr (.returned (.tuple #[u,v])) w):bodyPost prog fn Rr .ret a w:=by
 refine cW (v:= .tuple #[u,v]) ?_ hd hR;have a0:a.tmps[c]?.getD undef=u:=by simpa using hc
 have a1:a.tmps[f]?.getD undef=v:=by simpa using he
 simp[results,hf,a0,a1,go_sem]
theorem Em {fn:Func} {Rr:Ending->World->Prop} {a:Act} {w:World} {c r:Nat} {v0 v1 v2 v3 v4:Value} (hf:fn.results=#[.cell c 219]) (hd:a.defers=[]) (hc:a.tmps.getD c undef= .pointer (some ⟨r,0,none⟩))
  (h0:w.heap[r]?=some (.cells #[v0,v1,v2,v3,v4] 219)) (hR:Rr (.returned (.agg #[v0,v1,v2,v3,v4])) w):bodyPost prog fn Rr .ret a w:=by
 have r0:=ce0 h0;have r1:=ce1 h0;have r2:=ce2 h0;have r3:=ce3 h0;have r4:=ce4 h0;refine cW (v:= .agg #[v0,v1,v2,v3,v4]) ?_ hd hR;have a0:a.tmps[c]?.getD undef= .pointer (some ⟨r,0,none⟩):=by simpa using hc
 simp[results,hf,a0,go_sem,r0,r1,r2,r3,r4]
def dF (x:XIt):Value:= .agg #[.int .i64 x.place,.int .u8 x.op.toNat,.int .u8 x.cls.toNat,.int .i64 x.num,.slice x.pa x.pn x.pc]
theorem qc (c:UInt8) (m:Nat) (an:UInt8) (vl vi:Value) (its:List XIt) (i:Nat) (x:XIt) (w:World) (hI:ItB w 0 vi its) (hx:its[i]?=some x) (hl:its.length<=1000):
  Calls prog 152 #[.agg #[.int .u8 c.toNat,.int .i64 m,.int .u8 an.toNat,vl,vi],.int .i64 i] w λen w'=>en= .returned (dF x)/\NB w w':=by
 have a6:=(bC hx).1;unfold ItB at hI;obtain⟨ai,ci,rfl⟩:=aw hI;obtain⟨g,rfl,a1,a2,a0⟩:=aF hI (by omega);have q0:w.cell? ⟨g,i*5,none⟩=some _:=a0 _ _ (aS (k:=0) hx (by omega));have q1:w.cell? ⟨g,i*5+1,none⟩=some _:=a0 _ _ (aS (k:=1) hx (by omega));have q2:w.cell? ⟨g,i*5+2,none⟩=some _:=a0 _ _ (aS (k:=2) hx (by omega));have q3:w.cell? ⟨g,i*5+3,none⟩=some _:=a0 _ _ (aS (k:=3) hx (by omega));have q4:w.cell? ⟨g,i*5+4,none⟩=some _:=a0 _ _ (aS (k:=4) hx (by omega));have a3: ¬((i:Int)<0):=by omega
 have a4: ¬((its.length:Int)<=(i:Int)):=by omega
 have a5:(i:Int)<(its.length:Int):=by omega
 unfold dF;clear a0 hx hI;generalize its.length=ni at*
 go_in
 go_wp2_with fail;exact Em results152 rfl rfl (aB (by simp) _) ⟨rfl,((NB.refl w).alloc (by decide)).alloc (by decide)⟩
end
end Go.Proofs.YtpfkkmacakjmbaaGreatDoor
