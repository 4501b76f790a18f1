import Derived.Test.YtpfkkmacakjmbaaGreatDoorP17
import Derived.Test.YtpfkkmacakjmbaaGreatDoorP21
set_option maxRecDepth 100000
set_option maxHeartbeats 6400000
set_option linter.all false
namespace Go.Proofs.YtpfkkmacakjmbaaGreatDoor
open Proofs.Tryz
section
open Go Go.RowKit Sp
attribute [local go_sem ↓] eF eG
def xN:V->Int
 | .i n=>n
 |_=>0
def xO:V->Int
 | .o k=>k+1
 |_=>0
def aI (v:V):Value:= .agg #[.int .i32 (xN v),.int .i64 (xO v)]
def ka (v:V):List Value:=[.int .i32 (xN v),.int .i64 (xO v)]
def az (l:List V):List Value:=l.flatMap ka
theorem ey (l:List V):(az l).length=l.length*2:=by
 induction l with
 |nil=>rfl
 |cons v l ih=>simp[az,ka]at ih⊢;omega
theorem bJ {l:List V} {j k:Nat} {v:V} (h:l[j]?=some v) (hk:k<2):(az l)[j*2+k]?=(ka v)[k]?:=me ka 2 (λ_=>rfl) l j k v h hk
theorem rF (l:List V) (j:Nat) (u:V):az (l.set j u)=((az l).set (j*2) (.int .i32 (xN u))).set (j*2+1) (.int .i64 (xO u)):=by
 induction l generalizing j with
 |nil=>simp[az]
 |cons v l ih=>
  cases j with
  |zero=>simp[az,ka]
  |succ j=>
   have:=ih j;simp only[az]at this;simp[az,ka,Nat.succ_mul,this]
theorem ET (t:UInt8):xN (du t)=0/\xO (du t)=0:=by unfold du;split<;>exact⟨rfl,rfl⟩
def cr (e:Nat):Int:=if e=5 then 1 else if e=6 then 2 else if e=7 then 3 else if e=8 then 4 else if e=9 then 5 else if e=10 then 6 else 0
theorem kV (b:Bool) (w:World):
  Calls prog 235 #[.bool b] w λen w'=>en= .returned (aI (if b=true then .i 1 else .i 0))/\B_ w w':=by
 cases b
 .go_in
  go_wp2_with fail;exact cU (v:=aI (.i 0)) (by simp[results,results235,go_sem,aI,xN,xO]) rfl ⟨rfl,ag _ _ _⟩
 .go_in
  go_wp2_with fail;exact cU (v:=aI (.i 1)) (by simp[results,results235,go_sem,aI,xN,xO]) rfl ⟨rfl,ag _ _ _⟩
def mI (op:Nat) (a b:Int):Value:=if op=47/\b=0 then .tuple #[aI .z,.int .i64 3]else .tuple #[aI (.i (if op=47 then w32 (Int.tdiv a b)else wO op a b)),.int .i64 0]
theorem dI {fn:Func} {Rr:Ending->World->Prop} {a:Act} {w:World} {c f r:Nat} {K N e:Int} (hf:fn.results=#[.cell c 168,.tmp f]) (hd:a.defers=[]) (hc:a.tmps.getD c undef= .pointer (some ⟨r,0,none⟩)) (he:a.tmps.getD f undef= .int .i64 e)
  (h0:w.heap[r]?=some (.cells #[.int .i32 K,.int .i64 N] 168)) (hR:Rr (.returned (.tuple #[.agg #[.int .i32 K,.int .i64 N],.int .i64 e])) w):bodyPost prog fn Rr .ret a w:=by
 have r0:=ce0 h0;have g:=ce1 h0;refine cU (v:= .tuple #[.agg #[.int .i32 K,.int .i64 N],.int .i64 e]) ?_ hd hR;have b:a.tmps[c]?.getD undef= .pointer (some ⟨r,0,none⟩):=by simpa using hc
 have d:a.tmps[f]?.getD undef= .int .i64 e:=by simpa using he
 simp[results,hf,b,d,go_sem,r0,g]
def dE (w:World) (r:Nat):Prop:= ∃K N:Int,w.heap[r]?=some (.cells #[.int .i32 K,.int .i64 N] 168)
theorem dE.but {F:Nat->Prop} {w w':World} {r:Nat} (h:dE w r) (hb:But F w w') (hf: ¬F r):dE w' r:=by
 obtain⟨K,N,h⟩:=h;exact⟨K,N,(hb.block r (ae h) hf).trans h⟩
theorem dE.parts {w:World} {r:Nat} (h:dE w r): ∃K N:Int,w.cell? ⟨r,0,none⟩=some (.int .i32 K)/\w.cell? ⟨r,1,none⟩=some (.int .i64 N)/\w.frozen? ⟨r,0,none⟩=false/\w.frozen? ⟨r,1,none⟩=false/\r<w.heap.size:=by
 obtain⟨K,N,h⟩:=h;exact⟨K,N,by rw[bU w r 0 _ _ (0,0) h];rfl,by rw[bU w r 1 _ _ (0,0) h];rfl,cw w r 0 _ _ h,cw w r 1 _ _ h,ae h⟩
theorem dE.put {w:World} {r:Nat} (h:dE w r) (K N:Int):((w.setCell ⟨r,0,none⟩ (.int .i32 K)).setCell ⟨r,1,none⟩ (.int .i64 N)).heap[r]?=some (.cells #[.int .i32 K,.int .i64 N] 168):=by
 obtain⟨K',N',h⟩:=h;exact bS _ r 1 _ _ _ (bS _ r 0 _ _ _ h)
theorem AH (op:Nat) (hop:op=43\/op=45\/op=42\/op=60\/op=61\/op=47) (a b:Int) (a1: -2147483648<=a) (a2:a<2147483648) (b1: -2147483648<=b) (b2:b<2147483648) (w:World):
  Calls prog 234 #[.int .u8 op,.int .i32 a,.int .i32 b] w λen w'=>en= .returned (mI op a b)/\B_ w w':=by
 obtain rfl|rfl|rfl|rfl|rfl|rfl:=hop
 .go_in
  go_wp2_with fail;exact dI results234 rfl rfl rfl (aw rfl _) ⟨rfl,ag _ _ _⟩
 .go_in
  go_wp2_with fail;exact dI results234 rfl rfl rfl (aw rfl _) ⟨rfl,ag _ _ _⟩
 .go_in
  go_wp2_with fail;exact dI results234 rfl rfl rfl (aw rfl _) ⟨rfl,ag _ _ _⟩
 .rw[show mI 60 a b= .tuple #[aI (if decide (a<b)=true then .i 1 else .i 0),.int .i64 0]from by unfold mI wO;by_cases h:a<b<;>simp[h]];obtain⟨u,g⟩: ∃u,(if decide (a<b)=true then V.i 1 else V.i 0)=u:=⟨_,rfl⟩;have HT:=hid (λw=>kV (decide (a<b)) w);rw[g]at HT⊢;clear g
  go_in
  go_wp2_with fail;refine(HT.out _).mono ?_;rintro en w1 ⟨rfl,c⟩;simp only[aI];have d:dE w1 w.heap.size:=dE.but ⟨0,0,bj w _⟩ c (λh=>h);have f:B_ w w1:=(ag _ _ _).trans c;obtain⟨l,m,r0,r,n,p,j⟩:=d.parts;clear c HT;go_wp2_with fail;exact dI results234 rfl rfl rfl (d.put _ _) ⟨rfl,f.next (dH _ _ _ _) (λk hk e=>by have e:k=w.heap.size:=e;omega)⟩
 .rw[show mI 61 a b= .tuple #[aI (if decide (a=b)=true then .i 1 else .i 0),.int .i64 0]from by unfold mI wO;by_cases h:a=b<;>simp[h]];obtain⟨u,g⟩: ∃u,(if decide (a=b)=true then V.i 1 else V.i 0)=u:=⟨_,rfl⟩;have HT:=hid (λw=>kV (decide (a=b)) w);rw[g]at HT⊢;clear g
  go_in
  go_wp2_with fail;refine(HT.out _).mono ?_;rintro en w1 ⟨rfl,c⟩;simp only[aI];have d:dE w1 w.heap.size:=dE.but ⟨0,0,bj w _⟩ c (λh=>h);have f:B_ w w1:=(ag _ _ _).trans c;obtain⟨l,m,r0,r,n,p,j⟩:=d.parts;clear c HT;go_wp2_with fail;exact dI results234 rfl rfl rfl (d.put _ _) ⟨rfl,f.next (dH _ _ _ _) (λk hk e=>by have e:k=w.heap.size:=e;omega)⟩
 .by_cases h0:b=0
  .subst h0;rw[show mI 47 a 0= .tuple #[.agg #[.int .i32 0,.int .i64 0],.int .i64 3]from rfl]
   go_in
   go_wp2_with fail;exact dI results234 rfl rfl rfl (aw rfl _) ⟨rfl,ag _ _ _⟩
  .rw[show mI 47 a b= .tuple #[.agg #[.int .i32 (wrap32 (Int.tdiv a b)),.int .i64 0],.int .i64 0]from by unfold mI;rw[if_neg (by omega)];rfl];have q:(b==0)=false:=by simpa using h0
   go_in
   go_wp2_with fail;exact dI results234 rfl rfl rfl (aw rfl _) ⟨rfl,ag _ _ _⟩
end
section
open Go Go.RowKit Sp
def XwC (w:World) (b tx:Nat) (inp:ByteArray) (r:Int) (vo vb:Value) (cn:Int):Prop:=
 w.heap[b]?=some (.cells #[.pointer (some ⟨tx,0,none⟩),.string inp,.int .i64 r,vo,vb,.int .i64 cn] 211)
section
variable {w:World} {b tx:Nat} {inp:ByteArray} {r:Int} {vo vb:Value} {cn:Int}
theorem XwC.lt (h:XwC w b tx inp r vo vb cn):b<w.heap.size:=ae h
theorem XwC.c0 (h:XwC w b tx inp r vo vb cn):w.cell? ⟨b,0,none⟩=some (.pointer (some ⟨tx,0,none⟩)):=ce0 h
theorem XwC.c1 (h:XwC w b tx inp r vo vb cn):w.cell? ⟨b,1,none⟩=some (.string inp):=ce1 h
theorem XwC.c2 (h:XwC w b tx inp r vo vb cn):w.cell? ⟨b,2,none⟩=some (.int .i64 r):=ce2 h
theorem XwC.c3 (h:XwC w b tx inp r vo vb cn):w.cell? ⟨b,3,none⟩=some vo:=ce3 h
theorem XwC.c4 (h:XwC w b tx inp r vo vb cn):w.cell? ⟨b,4,none⟩=some vb:=ce4 h
theorem XwC.c5 (h:XwC w b tx inp r vo vb cn):w.cell? ⟨b,5,none⟩=some (.int .i64 cn):=ce5 h
theorem XwC.fz (h:XwC w b tx inp r vo vb cn) (j:Nat):w.frozen? ⟨b,j,none⟩=false:=cw w b j _ _ h
theorem XwC.but {F:Nat->Prop} {w':World} (h:XwC w b tx inp r vo vb cn) (hb:But F w w') (hf: ¬F b):XwC w' b tx inp r vo vb cn:=(hb.block b h.lt hf).trans h
theorem XwC.set2 (h:XwC w b tx inp r vo vb cn) (n:Int):XwC (w.setCell ⟨b,2,none⟩ (.int .i64 n)) b tx inp n vo vb cn:=bS w b 2 _ _ _ h
theorem XwC.set3 (h:XwC w b tx inp r vo vb cn) (v:Value):XwC (w.setCell ⟨b,3,none⟩ v) b tx inp r v vb cn:=bS w b 3 _ _ _ h
theorem XwC.set4 (h:XwC w b tx inp r vo vb cn) (v:Value):XwC (w.setCell ⟨b,4,none⟩ v) b tx inp r vo v cn:=bS w b 4 _ _ _ h
theorem XwC.set5 (h:XwC w b tx inp r vo vb cn) (n:Int):XwC (w.setCell ⟨b,5,none⟩ (.int .i64 n)) b tx inp r vo vb n:=bS w b 5 _ _ _ h
end
def XoC (w:World) (g c:Nat) (v:Value) (sn:Int):Prop:=w.heap[g]?=some (.cells #[.int .u8 c,v,.int .i64 sn] 318)
def fW (gs:List Nat):List Value:=gs.map λg=> .pointer (some ⟨g,0,none⟩)
abbrev FrQ (P:Nat->Prop) (w0:World) (k:Nat):Prop:=w0.heap.size<=k/\ ¬P k
def qR (bw:Nat) (vo vb:Value) (gs:List Nat) (fv:List Value) (k:Nat):Prop:=
 k=bw\/vo.ownBlock=some k\/vb.ownBlock=some k\/k∈gs\/ ∃v∈fv,v.ownBlock=some k
structure WdQ (P:Nat->Prop) (w0 w:World) (bw tx:Nat) (inp:ByteArray) (s:Ev) (vo vb:Value) (gs:List Nat) (fv:List Value) (cn:Int) (sn:Nat->Int):Prop where
 old:B_ w0 w
 wd:XwC w bw tx inp (min s.read inp.size:Nat) vo vb cn
 out:w.ownsRow w0.heap.size 5 1 vo s.out.length (Lib.byteCells s.out)
 ob:w.ownsRow w0.heap.size 315 1 vb s.heap.length (fW gs)
 lg:gs.length=s.heap.length
 lf:fv.length=s.heap.length
 obs: ∀(k:Nat) o g v,s.heap[k]?=some o->gs[k]?=some g->fv[k]?=some v->XoC w g (65+o.cls) v (sn k)/\w.ownsRow w0.heap.size 168 2 v o.fs.length (az o.fs)
 nd: ∀(j k:Nat) g,gs[j]?=some g->gs[k]?=some g->j=k
 own: ∀k,qR bw vo vb gs fv k->w0.heap.size<=k/\ ¬P k
 pl: ∀k,P k->k<w.heap.size/\ ∀c fz,w.heap[k]?≠some (.cells c 5 fz)
 sf: ∀(j k:Nat) v v' g,fv[j]?=some v->fv[k]?=some v'->v.ownBlock=some g->v'.ownBlock=some g->j=k
 se:0<=cn/\ ∀k,0<=sn k/\sn k<=cn
theorem bL {w:World} {g k:Nat} {c c':Array Value} {t t':TypeId} {fr fr':Nat×Nat} (hk:w.heap[k]?=some (.cells c' t' fr')) (hg:w.heap[g]?=some (.cells c t fr)) (h:t≠t'):k≠g:=λe=>by
 subst e;rw[hk]at hg;injection hg with hg;injection hg with _ h2;exact h h2.symm
section
variable {P:Nat->Prop} {w0 w w':World} {bw tx:Nat} {inp:ByteArray} {s:Ev} {vo vb:Value} {gs:List Nat} {fv:List Value} {cn:Int} {sn:Nat->Int}
theorem WdQ.k2 (h:WdQ P w0 w bw tx inp s vo vb gs fv cn sn):w0.heap.size<=bw/\ ¬P bw:=h.own bw (Or.inl rfl)
theorem WdQ.k4 (h:WdQ P w0 w bw tx inp s vo vb gs fv cn sn) {g:Nat} (hg:vo.ownBlock=some g):w0.heap.size<=g/\ ¬P g:=h.own g (Or.inr (Or.inl hg))
theorem WdQ.k5 (h:WdQ P w0 w bw tx inp s vo vb gs fv cn sn) {g:Nat} (hg:vb.ownBlock=some g):w0.heap.size<=g/\ ¬P g:=h.own g (Or.inr (Or.inr (Or.inl hg)))
theorem WdQ.k7 (h:WdQ P w0 w bw tx inp s vo vb gs fv cn sn) {g:Nat} (hg:g∈gs):w0.heap.size<=g/\ ¬P g:=h.own g (Or.inr (Or.inr (Or.inr (Or.inl hg))))
theorem WdQ.k8 (h:WdQ P w0 w bw tx inp s vo vb gs fv cn sn) {v:Value} {g:Nat} (hv:v∈fv) (hg:v.ownBlock=some g):w0.heap.size<=g/\ ¬P g:=h.own g (Or.inr (Or.inr (Or.inr (Or.inr ⟨v,hv,hg⟩))))
theorem WdQ.obj (h:WdQ P w0 w bw tx inp s vo vb gs fv cn sn) {k:Nat} (hk:k<s.heap.length): ∃(o:Ob) (g:Nat) (v:Value),s.heap[k]?=some o/\gs[k]?=some g/\fv[k]?=some v/\XoC w g (65+o.cls) v (sn k)/\w.ownsRow w0.heap.size 168 2 v o.fs.length (az o.fs):=by
 have a:=aM hk;have b:=aM (show k<gs.length by rw[h.lg];exact hk);have c:=aM (show k<fv.length by rw[h.lf];exact hk);exact⟨_,_,_,a,b,c,(h.obs k _ _ _ a b c).1,(h.obs k _ _ _ a b c).2⟩
theorem WdQ.mg (h:WdQ P w0 w bw tx inp s vo vb gs fv cn sn) {g:Nat} (hg:g∈gs): ∃(c:Nat) (v:Value) (q:Int),XoC w g c v q:=by
 obtain⟨k,b,rfl⟩:=List.getElem_of_mem hg;obtain⟨o,g',v,_,a,_,d,_⟩:=h.obj (by rw[<-h.lg];exact b);rw[aM b]at a
 cases a
 exact⟨_,_,_,d⟩
theorem WdQ.mv (h:WdQ P w0 w bw tx inp s vo vb gs fv cn sn) {v:Value} (hv:v∈fv): ∃(n:Nat) (xs:List Value),w.ownsRow w0.heap.size 168 2 v n xs:=by
 obtain⟨k,b,rfl⟩:=List.getElem_of_mem hv;obtain⟨o,g',v,_,_,a,_,c⟩:=h.obj (by rw[<-h.lf];exact b);rw[aM b]at a
 cases a
 exact⟨_,_,c⟩
theorem WdQ.lt (h:WdQ P w0 w bw tx inp s vo vb gs fv cn sn) {k:Nat} (hk:qR bw vo vb gs fv k):k<w.heap.size:=by
 obtain rfl|hk|hk|hk| ⟨v,hv,hk⟩:=hk
 .exact h.wd.lt
 .exact bB h.out k hk
 .exact bB h.ob k hk
 .obtain⟨c,v,q,a⟩:=h.mg hk;exact ae a
 .obtain⟨n,xs,a⟩:=h.mv hv;exact bB a k hk
theorem WdQ.but {F:Nat->Prop} (h:WdQ P w0 w bw tx inp s vo vb gs fv cn sn) (hB:But F w w') (h0: ∀k,F k->w0.heap.size<=k) (h1: ∀k,qR bw vo vb gs fv k-> ¬F k) (hp: ∀k,P k-> ¬F k):WdQ P w0 w' bw tx inp s vo vb gs fv cn sn:=by
 refine⟨h.old.next hB (λk hk hf=>by have:=h0 k hf;omega),h.wd.but hB (h1 _ (Or.inl rfl)),ah h.out hB (λg hg=>h1 g (Or.inr (Or.inl hg))),ah h.ob hB (λg hg=>h1 g (Or.inr (Or.inr (Or.inl hg)))),h.lg,h.lf,λk o g v a b c=> ?_,h.nd,h.own,λk hk=> ?_,h.sf,h.se⟩
 .obtain⟨x,y⟩:=h.obs k o g v a b c;exact⟨(hB.block g (ae x) (h1 g (Or.inr (Or.inr (Or.inr (Or.inl (a9 b))))))).trans x,ah y hB (λq hq=>h1 q (Or.inr (Or.inr (Or.inr (Or.inr ⟨v,a9 c,hq⟩)))))⟩
 .obtain⟨a,b⟩:=h.pl k hk;refine⟨aP a hB.size,λc fz e=> ?_⟩;rw[hB.block k a (hp k hk)]at e;exact b c fz e
theorem WdQ.new (h:WdQ P w0 w bw tx inp s vo vb gs fv cn sn) (hB:B_ w w'):WdQ P w0 w' bw tx inp s vo vb gs fv cn sn:=h.but hB (λ_ h=>h.elim) (λ_ _ h=>h) (λ_ _ h=>h)
theorem WdQ.grow (h:WdQ P w0 w bw tx inp s vo vb gs fv cn sn) (hB:B_ w w') (ht: ∀k,w.heap.size<=k->k<w'.heap.size-> ∀c fz,w'.heap[k]?≠some (.cells c 5 fz)):WdQ (λk=>P k\/(w.heap.size<=k/\k<w'.heap.size)) w0 w' bw tx inp s vo vb gs fv cn sn:=by
 have a:=h.new hB;refine⟨a.old,a.wd,a.out,a.ob,a.lg,a.lf,a.obs,a.nd,λk hk=>⟨(a.own k hk).1,λhp=> ?_⟩,λk hk=> ?_,a.sf,a.se⟩
 .obtain hp|hp:=hp
  .exact(a.own k hk).2 hp
  .have:=h.lt hk;omega
 .obtain hk|hk:=hk
  .exact a.pl k hk
  .exact⟨hk.2,ht k hk.1 hk.2⟩
theorem WdQ.less {Q:Nat->Prop} (h:WdQ P w0 w bw tx inp s vo vb gs fv cn sn) (hs: ∀k,Q k->P k):WdQ Q w0 w bw tx inp s vo vb gs fv cn sn:=
 ⟨h.old,h.wd,h.out,h.ob,h.lg,h.lf,h.obs,h.nd,λk hk=>⟨(h.own k hk).1,λhp=>(h.own k hk).2 (hs k hp)⟩,λk hk=>h.pl k (hs k hk),h.sf,h.se⟩
theorem WdQ.add (h:WdQ P w0 w bw tx inp s vo vb gs fv cn sn) {Q:Nat->Prop} (hQ: ∀k,Q k-> ∃c t fz,w.heap[k]?=some (.cells c t fz)/\t≠5/\(t=168-> ∀v∈fv,v.ownBlock≠some k)/\t≠211/\t≠315/\t≠318):WdQ (λk=>P k\/Q k) w0 w bw tx inp s vo vb gs fv cn sn:=by
 refine⟨h.old,h.wd,h.out,h.ob,h.lg,h.lf,h.obs,h.nd,λj hj=>⟨(h.own j hj).1,λhp=> ?_⟩,λj hj=> ?_,h.sf,h.se⟩
 .obtain hp|hq:=hp
  .exact(h.own j hj).2 hp
  .obtain⟨c,t,fz,a,t1,t2,d,f,g⟩:=hQ j hq;obtain rfl|hj|hj|hj| ⟨v,hv,hj⟩:=hj
   .exact bL h.wd a d rfl
   .exact aE h.out a (Ne.symm t1) hj
   .exact aE h.ob a (Ne.symm f) hj
   .obtain⟨c',v',q,b⟩:=h.mg hj;exact bL b a g rfl
   .by_cases e:t=168
    .exact t2 e v hv hj
    .obtain⟨n',xs,b⟩:=h.mv hv;exact aE b a (Ne.symm e) hj
 .obtain hj|hj:=hj
  .exact h.pl j hj
  .obtain⟨c,t,fz,a,t1,_⟩:=hQ j hj;exact⟨ae a,λc' fz' e=>by rw[a]at e;injection e with e;injection e with _ h2;exact t1 h2⟩
structure EU (P:Nat->Prop) (w0 w':World) (bw tx:Nat) (inp:ByteArray) (s:Ev) (vo vb:Value) (gs:List Nat) (fv:List Value) (cn:Int) (sn:Nat->Int) (t:TypeId):Prop where
 old:B_ w0 w'
 wd:t≠211->XwC w' bw tx inp (min s.read inp.size:Nat) vo vb cn
 out:t≠5->w'.ownsRow w0.heap.size 5 1 vo s.out.length (Lib.byteCells s.out)
 ob:t≠315->w'.ownsRow w0.heap.size 315 1 vb s.heap.length (fW gs)
 obj:t≠318-> ∀(k:Nat) o g v,s.heap[k]?=some o->gs[k]?=some g->fv[k]?=some v->XoC w' g (65+o.cls) v (sn k)
 fld:t≠168-> ∀(k:Nat) o g v,s.heap[k]?=some o->gs[k]?=some g->fv[k]?=some v->w'.ownsRow w0.heap.size 168 2 v o.fs.length (az o.fs)
 pl: ∀k,P k->k<w'.heap.size/\ ∀c fz,w'.heap[k]?≠some (.cells c 5 fz)
theorem WdQ.stand (h:WdQ P w0 w bw tx inp s vo vb gs fv cn sn) {g:Nat} {c:Array Value} {t:TypeId} {fr:Nat×Nat} (hg:w.heap[g]?=some (.cells c t fr)) (hg0:w0.heap.size<=g) (hgp: ¬P g) (hB:But (· =g) w w'):EU P w0 w' bw tx inp s vo vb gs fv cn sn t:=by
 refine⟨h.old.next hB (λk hk e=>by have e:k=g:=e;omega),λht=>h.wd.but hB (bL h.wd hg ht),λht=>ah h.out hB (λk hk e=>aE h.out hg (Ne.symm ht) (e▸hk)),λht=>ah h.ob hB (λk hk e=>aE h.ob hg (Ne.symm ht) (e▸hk)),λht k o q v a b d=> ?_,λht k o q v a b d=> ?_,λk hk=> ?_⟩
 .have x:=(h.obs k o q v a b d).1;exact(hB.block q (ae x) (bL x hg ht)).trans x
 .have y:=(h.obs k o q v a b d).2;exact ah y hB (λj hj e=>aE y hg (Ne.symm ht) (e▸hj))
 .obtain⟨a,b⟩:=h.pl k hk;refine⟨aP a hB.size,λc fz e=> ?_⟩;rw[hB.block k a (λe=>hgp (e▸hk))]at e;exact b c fz e
theorem WdQ.left (h:WdQ P w0 w bw tx inp s vo vb gs fv cn sn) (n:Nat):WdQ P w0 w bw tx inp {s with left:=n} vo vb gs fv cn sn:=
 ⟨h.old,h.wd,h.out,h.ob,h.lg,h.lf,h.obs,h.nd,h.own,h.pl,h.sf,h.se⟩
theorem WdQ.readd (h:WdQ P w0 w bw tx inp s vo vb gs fv cn sn) {n:Nat} (hn:n=min (s.read+1) inp.size):WdQ P w0 (w.setCell ⟨bw,2,none⟩ (.int .i64 n)) bw tx inp {s with read:=s.read+1} vo vb gs fv cn sn:=by
 have a:=h.stand h.wd h.k2.1 h.k2.2 (aq w bw 2 (.int .i64 n));refine⟨a.old,?_,a.out (by decide),a.ob (by decide),h.lg,h.lf,λk o g v x y z=>⟨a.obj (by decide) k o g v x y z,a.fld (by decide) k o g v x y z⟩,h.nd,h.own,a.pl,h.sf,h.se⟩;have:=h.wd.set2 (n:Int);rw[hn]at this⊢;exact this
theorem WdQ.unread (h:WdQ P w0 w bw tx inp s vo vb gs fv cn sn) (hn:inp.size<=s.read):WdQ P w0 w bw tx inp {s with read:=s.read+1} vo vb gs fv cn sn:=
 ⟨h.old,by have:=h.wd;rw[show min s.read inp.size=min (s.read+1) inp.size from by omega]at this;exact this,h.out,h.ob,h.lg,h.lf,h.obs,h.nd,h.own,h.pl,h.sf,h.se⟩
theorem WdQ.count (h:WdQ P w0 w bw tx inp s vo vb gs fv cn sn) (n:Int) (hn:cn<=n):WdQ P w0 (w.setCell ⟨bw,5,none⟩ (.int .i64 n)) bw tx inp s vo vb gs fv n sn:=by
 have a:=h.stand h.wd h.k2.1 h.k2.2 (aq w bw 5 (.int .i64 n));exact⟨a.old,h.wd.set5 n,a.out (by decide),a.ob (by decide),h.lg,h.lf,λk o g v x y z=>⟨a.obj (by decide) k o g v x y z,a.fld (by decide) k o g v x y z⟩,h.nd,h.own,a.pl,h.sf,Int.le_trans h.se.1 hn,λk=>⟨(h.se.2 k).1,Int.le_trans (h.se.2 k).2 hn⟩⟩
theorem oV {w:World} {base n g j:Nat} {v:Value} {l:List V} (u:V) (h:w.ownsRow base 168 2 v n (az l)) (hg:v.ownBlock=some g):
  ((w.setCell ⟨g,j*2,none⟩ (.int .i32 (xN u))).setCell ⟨g,j*2+1,none⟩ (.int .i64 (xO u))).ownsRow base 168 2 v n (az (l.set j u)):=by
 have a:=h.1;obtain⟨rfl,_⟩ | ⟨g',cap,cur,rfl,hb,f,b,c,d,e⟩:=h.2
 .cases hg
 .simp[Value.ownBlock]at hg;subst hg;refine⟨by rw[<-a,ey,ey];simp,Or.inr ⟨g',cap,(cur.setIfInBounds (j*2) (.int .i32 (xN u))).setIfInBounds (j*2+1) (.int .i64 (xO u)),rfl,hb,?_,b,c,by simpa using d,?_⟩⟩
  .exact bS _ g' _ _ _ _ (bS _ g' _ _ _ _ f)
  .rw[rF,<-e];simp[List.take_set]
theorem WdQ.setF (h:WdQ P w0 w bw tx inp s vo vb gs fv cn sn) {k g q:Nat} {o:Ob} {v:Value} (hk:s.heap[k]?=some o) (hq:gs[k]?=some q) (hv:fv[k]?=some v) (hg:v.ownBlock=some g) (j:Nat) (u:V):WdQ P w0 ((w.setCell ⟨g,j*2,none⟩ (.int .i32 (xN u))).setCell ⟨g,j*2+1,none⟩ (.int .i64 (xO u))) bw tx inp (s.put k j u) vo vb gs fv cn sn:=by
 have l:But (· =g) w ((w.setCell ⟨g,j*2,none⟩ (.int .i32 (xN u))).setCell ⟨g,j*2+1,none⟩ (.int .i64 (xO u))):=(aq _ _ _ _).trans (aq _ _ _ _);have m:=(h.obs k o q v hk hq hv).2;have hm:=a9 hv;obtain⟨cur,d⟩:=dw m hg;have a:=h.stand d (h.k8 hm hg).1 (h.k8 hm hg).2 l;have f:(s.put k j u).heap=s.heap.set k ⟨o.cls,o.fs.set j u⟩:=by simp[Ev.put,(Ev.at hk).1,(Ev.at hk).2]
 refine⟨a.old,a.wd (by decide),a.out (by decide),?_,by rw[f];simpa using h.lg,by rw[f];simpa using h.lf,?_,h.nd,h.own,a.pl,h.sf,h.se⟩
 .rw[f,List.length_set];exact a.ob (by decide)
 .intro i o' q' v' hi c b;rw[f,List.getElem?_set]at hi
  split at hi
  .rename_i he
   subst he;rw[hv]at b;rw[hq]at c
   cases b
   cases c
   split at hi
   .cases hi
    refine⟨a.obj (by decide) k o q v hk hq hv,?_⟩;simp only[List.length_set];exact oV u m hg
   .cases hi
  .rename_i he
   exact⟨a.obj (by decide) i o' q' v' hi c b,ah (h.obs i o' q' v' hi c b).2 l (λi' hi' e=>he (h.sf k i v v' g hv b hg (e▸hi')))⟩
theorem WdQ.tmp {F:Nat->Prop} (h:WdQ P w0 w bw tx inp s vo vb gs fv cn sn) (hB:But F w w') (hF: ∀k,F k->P k/\w0.heap.size<=k) (ht: ∀k,F k-> ∀c fz,w'.heap[k]?≠some (.cells c 5 fz)):WdQ P w0 w' bw tx inp s vo vb gs fv cn sn:=by
 have b: ∀k,qR bw vo vb gs fv k-> ¬F k:=λk hk hf=>(h.own k hk).2 (hF k hf).1
 have a:=(h.less (Q:=λ_=>False) (λ_ h=>h.elim)).but hB (λk hf=>(hF k hf).2) b (λ_ h=>h.elim);refine⟨a.old,a.wd,a.out,a.ob,a.lg,a.lf,a.obs,a.nd,h.own,λk hk=> ?_,a.sf,a.se⟩;obtain⟨x,y⟩:=h.pl k hk;refine⟨aP x hB.size,λc fz e=> ?_⟩
 by_cases hf:F k
 .exact ht k hf c fz e
 .rw[hB.block k x hf]at e;exact y c fz e
end
def XwB (w:World) (b tx:Nat) (inp:ByteArray) (r:Int) (vo vb:Value):Prop:=
 w.heap[b]?=some (.cells #[.pointer (some ⟨tx,0,none⟩),.string inp,.int .i64 r,vo,vb,.int .i64 0] 211)
section
variable {w:World} {b tx:Nat} {inp:ByteArray} {r:Int} {vo vb:Value}
theorem XwB.lt (h:XwB w b tx inp r vo vb):b<w.heap.size:=ae h
theorem XwB.c3 (h:XwB w b tx inp r vo vb):w.cell? ⟨b,3,none⟩=some vo:=ce3 h
theorem XwB.but {F:Nat->Prop} {w':World} (h:XwB w b tx inp r vo vb) (hb:But F w w') (hf: ¬F b):XwB w' b tx inp r vo vb:=(hb.block b h.lt hf).trans h
end
def XeB (w:World) (b tx bw:Nat) (f:Int):Prop:=w.heap[b]?=some (.cells #[.pointer (some ⟨tx,0,none⟩),.pointer (some ⟨bw,0,none⟩),.int .i64 f] 164)
section
variable {w:World} {b tx bw:Nat} {f:Int}
theorem XeB.lt (h:XeB w b tx bw f):b<w.heap.size:=ae h
theorem XeB.c0 (h:XeB w b tx bw f):w.cell? ⟨b,0,none⟩=some (.pointer (some ⟨tx,0,none⟩)):=ce0 h
theorem XeB.c1 (h:XeB w b tx bw f):w.cell? ⟨b,1,none⟩=some (.pointer (some ⟨bw,0,none⟩)):=ce1 h
theorem XeB.c2 (h:XeB w b tx bw f):w.cell? ⟨b,2,none⟩=some (.int .i64 f):=ce2 h
theorem XeB.fz (h:XeB w b tx bw f) (j:Nat):w.frozen? ⟨b,j,none⟩=false:=cw w b j _ _ h
theorem XeB.but {F:Nat->Prop} {w':World} (h:XeB w b tx bw f) (hb:But F w w') (hf: ¬F b):XeB w' b tx bw f:=(hb.block b h.lt hf).trans h
theorem XeB.set2 (h:XeB w b tx bw f) (n:Int):XeB (w.setCell ⟨b,2,none⟩ (.int .i64 n)) b tx bw n:=bS w b 2 _ _ _ h
end
def XoB (w:World) (g c:Nat) (v:Value):Prop:=w.heap[g]?=some (.cells #[.int .u8 c,v,.int .i64 0] 318)
def xS (be bw bl:Nat) (vo vb lv:Value) (gs:List Nat) (fv:List Value) (k:Nat):Prop:=
 k=be\/k=bw\/k=bl\/vo.ownBlock=some k\/vb.ownBlock=some k\/lv.ownBlock=some k\/k∈gs\/ ∃v∈fv,v.ownBlock=some k
structure StQ (P:Nat->Prop) (w0 w:World) (be bw tx:Nat) (inp:ByteArray) (s:Ev) (bl:Nat) (lv:Value) (l:List V) (vo vb:Value) (gs:List Nat) (fv:List Value):Prop where
 old:B_ w0 w
 ev:XeB w be tx bw s.left
 wd:XwB w bw tx inp (min s.read inp.size:Nat) vo vb
 out:w.ownsRow w0.heap.size 5 1 vo s.out.length (Lib.byteCells s.out)
 ob:w.ownsRow w0.heap.size 315 1 vb s.heap.length (fW gs)
 lg:gs.length=s.heap.length
 lf:fv.length=s.heap.length
 obs: ∀(k:Nat) o g v,s.heap[k]?=some o->gs[k]?=some g->fv[k]?=some v->XoB w g (65+o.cls) v/\w.ownsRow w0.heap.size 168 2 v o.fs.length (az o.fs)
 nd: ∀(j k:Nat) g,gs[j]?=some g->gs[k]?=some g->j=k
 lb:w.heap[bl]?=some (.cells #[lv] 280)
 lo:w.ownsRow w0.heap.size 168 2 lv l.length (az l)
 own: ∀k,xS be bw bl vo vb lv gs fv k->w0.heap.size<=k/\ ¬P k
 pl: ∀k,P k->k<w.heap.size/\ ∀c fz,w.heap[k]?≠some (.cells c 5 fz)
 sl: ∀v∈fv,∀g,v.ownBlock=some g->lv.ownBlock≠some g
 sf: ∀(j k:Nat) v v' g,fv[j]?=some v->fv[k]?=some v'->v.ownBlock=some g->v'.ownBlock=some g->j=k
section
variable {P:Nat->Prop} {w0 w w':World} {be bw tx bl:Nat} {inp:ByteArray} {s:Ev} {lv vo vb:Value} {l:List V} {gs:List Nat} {fv:List Value}
theorem StQ.k1 (h:StQ P w0 w be bw tx inp s bl lv l vo vb gs fv):w0.heap.size<=be/\ ¬P be:=h.own be (Or.inl rfl)
theorem StQ.k3 (h:StQ P w0 w be bw tx inp s bl lv l vo vb gs fv):w0.heap.size<=bl/\ ¬P bl:=h.own bl (Or.inr (Or.inr (Or.inl rfl)))
theorem StQ.k6 (h:StQ P w0 w be bw tx inp s bl lv l vo vb gs fv) {g:Nat} (hg:lv.ownBlock=some g):w0.heap.size<=g/\ ¬P g:=h.own g (Or.inr (Or.inr (Or.inr (Or.inr (Or.inr (Or.inl hg))))))
theorem StQ.k8 (h:StQ P w0 w be bw tx inp s bl lv l vo vb gs fv) {v:Value} {g:Nat} (hv:v∈fv) (hg:v.ownBlock=some g):w0.heap.size<=g/\ ¬P g:=h.own g (Or.inr (Or.inr (Or.inr (Or.inr (Or.inr (Or.inr (Or.inr ⟨v,hv,hg⟩)))))))
theorem StQ.obj (h:StQ P w0 w be bw tx inp s bl lv l vo vb gs fv) {k:Nat} (hk:k<s.heap.length): ∃(o:Ob) (g:Nat) (v:Value),s.heap[k]?=some o/\gs[k]?=some g/\fv[k]?=some v/\XoB w g (65+o.cls) v/\w.ownsRow w0.heap.size 168 2 v o.fs.length (az o.fs):=by
 have a:=aM hk;have b:=aM (show k<gs.length by rw[h.lg];exact hk);have c:=aM (show k<fv.length by rw[h.lf];exact hk);exact⟨_,_,_,a,b,c,(h.obs k _ _ _ a b c).1,(h.obs k _ _ _ a b c).2⟩
theorem StQ.mg (h:StQ P w0 w be bw tx inp s bl lv l vo vb gs fv) {g:Nat} (hg:g∈gs): ∃(c:Nat) (v:Value),XoB w g c v:=by
 obtain⟨k,b,rfl⟩:=List.getElem_of_mem hg;obtain⟨o,g',v,_,a,_,d,_⟩:=h.obj (by rw[<-h.lg];exact b);rw[aM b]at a
 cases a
 exact⟨_,_,d⟩
theorem StQ.mv (h:StQ P w0 w be bw tx inp s bl lv l vo vb gs fv) {v:Value} (hv:v∈fv): ∃(n:Nat) (xs:List Value),w.ownsRow w0.heap.size 168 2 v n xs:=by
 obtain⟨k,b,rfl⟩:=List.getElem_of_mem hv;obtain⟨o,g',v,_,_,a,_,c⟩:=h.obj (by rw[<-h.lf];exact b);rw[aM b]at a
 cases a
 exact⟨_,_,c⟩
theorem StQ.lt (h:StQ P w0 w be bw tx inp s bl lv l vo vb gs fv) {k:Nat} (hk:xS be bw bl vo vb lv gs fv k):k<w.heap.size:=by
 obtain rfl|rfl|rfl|hk|hk|hk|hk| ⟨v,hv,hk⟩:=hk
 .exact h.ev.lt
 .exact h.wd.lt
 .exact ae h.lb
 .exact bB h.out k hk
 .exact bB h.ob k hk
 .exact bB h.lo k hk
 .obtain⟨c,v,a⟩:=h.mg hk;exact ae a
 .obtain⟨n,xs,a⟩:=h.mv hv;exact bB a k hk
theorem StQ.but {F:Nat->Prop} (h:StQ P w0 w be bw tx inp s bl lv l vo vb gs fv) (hB:But F w w') (h0: ∀k,F k->w0.heap.size<=k) (h1: ∀k,xS be bw bl vo vb lv gs fv k-> ¬F k) (hp: ∀k,P k-> ¬F k):StQ P w0 w' be bw tx inp s bl lv l vo vb gs fv:=by
 refine⟨h.old.next hB (λk hk hf=>by have:=h0 k hf;omega),h.ev.but hB (h1 _ (Or.inl rfl)),h.wd.but hB (h1 _ (Or.inr (Or.inl rfl))),ah h.out hB (λg hg=>h1 g (Or.inr (Or.inr (Or.inr (Or.inl hg))))),ah h.ob hB (λg hg=>h1 g (Or.inr (Or.inr (Or.inr (Or.inr (Or.inl hg)))))),h.lg,h.lf,λk o g v a b c=> ?_,h.nd,(hB.block bl (ae h.lb) (h1 _ (Or.inr (Or.inr (Or.inl rfl))))).trans h.lb,ah h.lo hB (λg hg=>h1 g (Or.inr (Or.inr (Or.inr (Or.inr (Or.inr (Or.inl hg))))))),h.own,λk hk=> ?_,h.sl,h.sf⟩
 .obtain⟨x,y⟩:=h.obs k o g v a b c;exact⟨(hB.block g (ae x) (h1 g (Or.inr (Or.inr (Or.inr (Or.inr (Or.inr (Or.inr (Or.inl (a9 b)))))))))).trans x,ah y hB (λq hq=>h1 q (Or.inr (Or.inr (Or.inr (Or.inr (Or.inr (Or.inr (Or.inr ⟨v,a9 c,hq⟩))))))))⟩
 .obtain⟨a,b⟩:=h.pl k hk;refine⟨aP a hB.size,λc fz e=> ?_⟩;rw[hB.block k a (hp k hk)]at e;exact b c fz e
theorem StQ.new (h:StQ P w0 w be bw tx inp s bl lv l vo vb gs fv) (hB:B_ w w'):StQ P w0 w' be bw tx inp s bl lv l vo vb gs fv:=h.but hB (λ_ h=>h.elim) (λ_ _ h=>h) (λ_ _ h=>h)
theorem StQ.grow (h:StQ P w0 w be bw tx inp s bl lv l vo vb gs fv) (hB:B_ w w') (ht: ∀k,w.heap.size<=k->k<w'.heap.size-> ∀c fz,w'.heap[k]?≠some (.cells c 5 fz)):StQ (λk=>P k\/(w.heap.size<=k/\k<w'.heap.size)) w0 w' be bw tx inp s bl lv l vo vb gs fv:=by
 have a:=h.new hB;refine⟨a.old,a.ev,a.wd,a.out,a.ob,a.lg,a.lf,a.obs,a.nd,a.lb,a.lo,λk hk=>⟨(a.own k hk).1,λhp=> ?_⟩,λk hk=> ?_,a.sl,a.sf⟩
 .obtain hp|hp:=hp
  .exact(a.own k hk).2 hp
  .have:=h.lt hk;omega
 .obtain hk|hk:=hk
  .exact a.pl k hk
  .exact⟨hk.2,ht k hk.1 hk.2⟩
theorem StQ.less {Q:Nat->Prop} (h:StQ P w0 w be bw tx inp s bl lv l vo vb gs fv) (hs: ∀k,Q k->P k):StQ Q w0 w be bw tx inp s bl lv l vo vb gs fv:=
 ⟨h.old,h.ev,h.wd,h.out,h.ob,h.lg,h.lf,h.obs,h.nd,h.lb,h.lo,λk hk=>⟨(h.own k hk).1,λhp=>(h.own k hk).2 (hs k hp)⟩,λk hk=>h.pl k (hs k hk),h.sl,h.sf⟩
structure FQ (P:Nat->Prop) (w0 w':World) (be bw tx:Nat) (inp:ByteArray) (s:Ev) (bl:Nat) (lv:Value) (l:List V) (vo vb:Value) (gs:List Nat) (fv:List Value) (t:TypeId):Prop where
 old:B_ w0 w'
 ev:t≠164->XeB w' be tx bw s.left
 wd:t≠211->XwB w' bw tx inp (min s.read inp.size:Nat) vo vb
 out:t≠5->w'.ownsRow w0.heap.size 5 1 vo s.out.length (Lib.byteCells s.out)
 ob:t≠315->w'.ownsRow w0.heap.size 315 1 vb s.heap.length (fW gs)
 obj:t≠318-> ∀(k:Nat) o g v,s.heap[k]?=some o->gs[k]?=some g->fv[k]?=some v->XoB w' g (65+o.cls) v
 fld:t≠168-> ∀(k:Nat) o g v,s.heap[k]?=some o->gs[k]?=some g->fv[k]?=some v->w'.ownsRow w0.heap.size 168 2 v o.fs.length (az o.fs)
 lb:t≠280->w'.heap[bl]?=some (.cells #[lv] 280)
 lo:t≠168->w'.ownsRow w0.heap.size 168 2 lv l.length (az l)
 pl: ∀k,P k->k<w'.heap.size/\ ∀c fz,w'.heap[k]?≠some (.cells c 5 fz)
theorem StQ.stand (h:StQ P w0 w be bw tx inp s bl lv l vo vb gs fv) {g:Nat} {c:Array Value} {t:TypeId} {fr:Nat×Nat} (hg:w.heap[g]?=some (.cells c t fr)) (hg0:w0.heap.size<=g) (hgp: ¬P g) (hB:But (· =g) w w'):FQ P w0 w' be bw tx inp s bl lv l vo vb gs fv t:=by
 refine⟨h.old.next hB (λk hk e=>by have e:k=g:=e;omega),λht=>h.ev.but hB (bL h.ev hg ht),λht=>h.wd.but hB (bL h.wd hg ht),λht=>ah h.out hB (λk hk e=>aE h.out hg (Ne.symm ht) (e▸hk)),λht=>ah h.ob hB (λk hk e=>aE h.ob hg (Ne.symm ht) (e▸hk)),λht k o q v a b d=> ?_,λht k o q v a b d=> ?_,λht=>(hB.block bl (ae h.lb) (bL h.lb hg ht)).trans h.lb,λht=>ah h.lo hB (λk hk e=>aE h.lo hg (Ne.symm ht) (e▸hk)),λk hk=> ?_⟩
 .have x:=(h.obs k o q v a b d).1;exact(hB.block q (ae x) (bL x hg ht)).trans x
 .have y:=(h.obs k o q v a b d).2;exact ah y hB (λj hj e=>aE y hg (Ne.symm ht) (e▸hj))
 .obtain⟨a,b⟩:=h.pl k hk;refine⟨aP a hB.size,λc fz e=> ?_⟩;rw[hB.block k a (λe=>hgp (e▸hk))]at e;exact b c fz e
theorem StQ.fuel (h:StQ P w0 w be bw tx inp s bl lv l vo vb gs fv) (n:Nat):StQ P w0 (w.setCell ⟨be,2,none⟩ (.int .i64 n)) be bw tx inp {s with left:=n} bl lv l vo vb gs fv:=by
 have a:=h.stand h.ev h.k1.1 h.k1.2 (aq w be 2 (.int .i64 n));exact⟨a.old,h.ev.set2 _,a.wd (by decide),a.out (by decide),a.ob (by decide),h.lg,h.lf,λk o g v x y z=>⟨a.obj (by decide) k o g v x y z,a.fld (by decide) k o g v x y z⟩,h.nd,a.lb (by decide),a.lo (by decide),h.own,a.pl,h.sl,h.sf⟩
theorem StQ.setL (h:StQ P w0 w be bw tx inp s bl lv l vo vb gs fv) {g:Nat} (hg:lv.ownBlock=some g) (j:Nat) (u:V):StQ P w0 ((w.setCell ⟨g,j*2,none⟩ (.int .i32 (xN u))).setCell ⟨g,j*2+1,none⟩ (.int .i64 (xO u))) be bw tx inp s bl lv (l.set j u) vo vb gs fv:=by
 have c:But (· =g) w ((w.setCell ⟨g,j*2,none⟩ (.int .i32 (xN u))).setCell ⟨g,j*2+1,none⟩ (.int .i64 (xO u))):=(aq _ _ _ _).trans (aq _ _ _ _);obtain⟨cur,b⟩:=dw h.lo hg;have a:=h.stand b (h.k6 hg).1 (h.k6 hg).2 c;refine⟨a.old,a.ev (by decide),a.wd (by decide),a.out (by decide),a.ob (by decide),h.lg,h.lf,λk o q v x y z=>⟨a.obj (by decide) k o q v x y z,ah (h.obs k o q v x y z).2 c (λi hi e=>h.sl v (a9 z) i hi (e▸hg))⟩,h.nd,a.lb (by decide),?_,h.own,a.pl,h.sl,h.sf⟩;rw[List.length_set];exact oV u h.lo hg
theorem StQ.tmp {F:Nat->Prop} (h:StQ P w0 w be bw tx inp s bl lv l vo vb gs fv) (hB:But F w w') (hF: ∀k,F k->P k/\w0.heap.size<=k) (ht: ∀k,F k-> ∀c fz,w'.heap[k]?≠some (.cells c 5 fz)):StQ P w0 w' be bw tx inp s bl lv l vo vb gs fv:=by
 have b: ∀k,xS be bw bl vo vb lv gs fv k-> ¬F k:=λk hk hf=>(h.own k hk).2 (hF k hf).1
 have a:=(h.less (Q:=λ_=>False) (λ_ h=>h.elim)).but hB (λk hf=>(hF k hf).2) b (λ_ h=>h.elim);refine⟨a.old,a.ev,a.wd,a.out,a.ob,a.lg,a.lf,a.obs,a.nd,a.lb,a.lo,h.own,λk hk=> ?_,a.sl,a.sf⟩;obtain⟨x,y⟩:=h.pl k hk;refine⟨aP x hB.size,λc fz e=> ?_⟩
 by_cases hf:F k
 .exact ht k hf c fz e
 .rw[hB.block k x hf]at e;exact y c fz e
end
end
section
open Go Go.RowKit Sp
attribute [local go_sem ↓] eF eG
theorem sA {fn:Func} {Rr:Ending->World->Prop} {a:Act} {w:World} {c r:Nat} {K N:Int} (hf:fn.results=#[.cell c 168]) (hd:a.defers=[]) (hc:a.tmps.getD c undef= .pointer (some ⟨r,0,none⟩))
  (h0:w.heap[r]?=some (.cells #[.int .i32 K,.int .i64 N] 168)) (hR:Rr (.returned (.agg #[.int .i32 K,.int .i64 N])) w):bodyPost prog fn Rr .ret a w:=by
 have r0:=ce0 h0;have d:=ce1 h0;refine cU (v:= .agg #[.int .i32 K,.int .i64 N]) ?_ hd hR;have b:a.tmps[c]?.getD undef= .pointer (some ⟨r,0,none⟩):=by simpa using hc
 simp[results,hf,b,go_sem,r0,d]
section
variable {P:Nat->Prop} {w0 w:World} {be bw tx bl:Nat} {inp:ByteArray} {s:Ev} {lv vo vb:Value} {l:List V} {gs:List Nat} {fv:List Value}
theorem DG (h:StQ P w0 w be bw tx inp s bl lv l vo vb gs fv) (j:Nat) (u:V) (hu:l[j]?=some u):
  Calls prog 196 #[.pointer (some ⟨bl,0,none⟩),.int .i64 j] w λen w'=>en= .returned (aI u)/\B_ w w':=by
 have m:=(bn hu).1;obtain⟨al,capl,rfl⟩:=aA h.lo;obtain⟨g,rfl,c,d,a⟩:=aL h.lo (by omega);have n:w.cell? ⟨g,j*2,none⟩=some (.int .i32 (xN u)):=a _ _ (bJ (k:=0) hu (by omega));have p:w.cell? ⟨g,j*2+1,none⟩=some (.int .i64 (xO u)):=a _ _ (bJ (k:=1) hu (by omega));have hb:=h.lb;have b0:=ce0 hb;have b:=ae hb;have f: ¬((l.length:Int)<=(j:Int)):=by omega
 have i:((j:Int))<(l.length:Int):=by omega
 have e: ¬((j:Int)<0):=by omega
 clear a hu hb;generalize l.length=nl at*
 go_in
 go_wp2_with fail;exact sA results196 rfl rfl (aw rfl _) ⟨rfl,ag _ _ _⟩
theorem tX (h:StQ P w0 w be bw tx inp s bl lv l vo vb gs fv) (j:Nat) (u:V) (hj:j<l.length):
  Calls prog 194 #[.pointer (some ⟨bl,0,none⟩),.int .i64 j,aI u] w λen w'=>en= .returned (.tuple #[])/\But (λk=>w0.heap.size<=k/\ ¬P k) w w'/\StQ P w0 w' be bw tx inp s bl lv (l.set j u) vo vb gs fv:=by
 unfold aI;obtain⟨al,capl,rfl⟩:=aA h.lo;obtain⟨g,rfl,i,I,b⟩:=aL h.lo (by omega);obtain⟨u',q⟩: ∃u',l[j]?=some u':=⟨_,aM hj⟩;have y:w.cell? ⟨g,j*2,none⟩=some (.int .i32 (xN u')):=b _ _ (bJ (k:=0) q (by omega));have z:w.cell? ⟨g,j*2+1,none⟩=some (.int .i64 (xO u')):=b _ _ (bJ (k:=1) q (by omega));obtain⟨cur,d⟩:=dw h.lo (g:=g) rfl;have E:=cw w g (j*2) _ _ d;have G:=cw w g (j*2+1) _ _ d;have hb:=h.lb;have b0:=ce0 hb;have p:=ae hb;have n:=(h.k6 (g:=g) rfl);have L:((j:Int))<(l.length:Int):=by omega
 have J:0<=(j:Int):=by omega
 clear b q hb d;generalize l.length=nl at*
 go_in
 go_wp2_with fail;have f:B_ w (w.alloc (.cells #[.int .i32 (xN u),.int .i64 (xO u)] 168)):=ag _ _ _;have e:=bj w (.cells #[.int .i32 (xN u),.int .i64 (xO u)] 168);revert f e;generalize (w.alloc (.cells #[.int .i32 (xN u),.int .i64 (xO u)] 168))=W;intro f e;have m:B_ W W.drew:=aD _ _;have C:=ce0 e;have D:=ce1 e;have b1:=f.kc b0 p;have B:=ae e;have M:bl<W.heap.size:=by omega
 have c:=f.trans m;have r:=c.kc y i;have t:=c.kc z i;have p2:=c.kz E i;have x:=c.kz G i;have A:=hid (And.intro r (And.intro t (And.intro p2 x)));clear r t p2 x y z E G b0;refine aF (B_ W) 7 ?_
 iterate 7 (refine aN (v:=?_) rfl m ?_ ?_;rotate_left;(focus (intro wS h;have y:=(h.kc b1 M);have z:=(h.kc C B);have O:=(h.kc D B);clear h;go_simp;try rfl));dsimp only[Act.put];try simp only[bW])
 obtain⟨r,t,p2,x⟩:=A.out;have H:=hid (λX (hX:B_ w X)=>(h.new hX).setL (g:=g) rfl j u);clear C D b1 m A;generalize W.drew=wd at*;refine au rfl ?_;intro KS hKS;go_simp;refine hKS.out _ _ nofun ?_;clear hKS KS;refine aK rfl ?_;go_end0;exact⟨rfl,(c.mono (λ_ _ h=>h.elim)).trans ((But.setCell wd (a:=⟨g,j*2,none⟩) (F:=λk=>w0.heap.size<=k/\ ¬P k) n _).trans (But.setCell _ (a:=⟨g,j*2+1,none⟩) n _)),H.out wd c⟩
end
theorem jr:(prog.info? 168).map (λi=>(i.zero,i.size,i.bytes))=some (some (.agg #[.int .i32 0,.int .i64 0]),2,16):=by kernel_rfl
def iG (n:Nat):List Value:=(List.replicate n [Value.int .i32 0,.int .i64 0]).flatten
theorem Ch (n:Nat):madeCells #[.int .i32 0,.int .i64 0] (n*2)=(iG n).toArray:=by
 apply Array.ext
 .rw[size_madeCells];simp[iG]
 .intro k b d;rw[size_madeCells]at b;have c:k<n*2:=by simpa using b
  have key: ∀(n k:Nat),k<n*2->(iG n)[k]?=some (if k % 2=0 then Value.int .i32 0 else .int .i64 0):=by
   intro n
   induction n with
   |zero=>intro k h;omega
   |succ n ih=>
    intro k h
    match k,h with
    |0,_=>simp[iG,List.replicate_succ]
    |1,_=>simp[iG,List.replicate_succ]
    |k+2,h=>
     have:=ih k (by omega);simp only[iG,List.replicate_succ,List.flatten_cons,List.cons_append,List.nil_append,List.getElem?_cons_succ]at this⊢;rw[this];simp[Nat.add_mod]
  have:=key n k c;have a:(iG n)[k]?=some ((iG n).toArray[k]):=by simp
  rw[a]at this;have e:=Option.some.inj this;rw[e];obtain hm|hm:=Nat.mod_two_eq_zero_or_one k<;>simp[madeCells,hm]
theorem vM (n:Nat) (hn:n<=1000) (w:World):(Instr.makeSlice 213 (.int .i64 (n:Int)) (.int .i64 (n:Int))).run prog w= .ok (.slice (some ⟨w.heap.size,0,none⟩) n n) (w.alloc (.cells (iG n).toArray 168)):=by
 have a:=jr
 cases hi:prog.info? 168 with
 |none=>rw[hi]at a;cases a
 |some i=>
  rw[hi]at a;simp only[Option.map_some,Option.some.injEq,Prod.mk.injEq]at a;obtain⟨c,b,hb⟩:=a;have:=run_make (P:=prog) w 213 168 i _ (by kernel_rfl) hi c .i64 .i64 n n (by omega) (by omega) (by rw[hb];omega) (by omega);rw[this,b];simp only[ny,Value.cells];rw[Ch]
theorem xT (ts:L_):iG ts.length=az (ts.map du):=by
 induction ts with
 |nil=>rfl
 |cons t ts ih=>
  obtain⟨a,b⟩:=ET t;simp only[iG,az]at ih;simp[iG,List.replicate_succ,az,ka,a,b,ih]
theorem vN {w:World} {g base:Nat} {ts:L_} (hb:base<=g) (hg:w.heap[g]?=some (.cells (iG ts.length).toArray 168)) (hl:ts.length<=1000):w.ownsRow base 168 2 (.slice (some ⟨g,0,none⟩) ts.length ts.length) ts.length (az (ts.map du)):=by
 have a:=xT ts;have hn:(iG ts.length).length=ts.length*2:=by rw[a,ey];simp
 refine⟨by rw[ey];simp,Or.inr ⟨g,ts.length,(iG ts.length).toArray,rfl,hb,hg,bG _,by unfold maxLen;omega,by simpa using hn,?_⟩⟩;rw[<-a];simp only;rw[g8 (by omega)]
section
variable {P:Nat->Prop} {w0 w:World} {be bw tx bl:Nat} {inp:ByteArray} {s:Ev} {lv vo vb:Value} {l:List V} {gs:List Nat} {fv:List Value}
theorem mJ (b:UInt8) (m:Int) (a:UInt8) (lo:L_) (al:Option Addr) (capl:Nat) (ai:Option Addr) (ni ci:Nat) (w:World) (hl:lo.length<=5):
  Calls prog 138 #[.agg #[.int .u8 b.toNat,.int .i64 m,.int .u8 a.toNat,.slice al lo.length capl,.slice ai ni ci]] w λen w'=> ∃(bl:Nat) (lv:Value),en= .returned (.pointer (some ⟨bl,0,none⟩))/\B_ w w'/\w'.heap[bl]?=some (.cells #[lv] 280)/\w'.ownsRow w.heap.size 168 2 lv lo.length (az (lo.map du))/\w.heap.size<=bl:=by
 have c:=vM lo.length (by omega)
 go_in
 go_wp2_with fail;go_ret;refine⟨w.heap.size+1+1,.slice (some ⟨w.heap.size+1,0,none⟩) lo.length lo.length,rfl,((ag _ _ _).trans (ag _ _ _)).trans (ag _ _ _),aw (by simp) _,?_,by omega⟩;refine vN (by omega) (((ag (λ_=>False) _ _).block _ (by simp) (λh=>h)).trans (aw (by simp) _)) (by omega)
end
end
end Go.Proofs.YtpfkkmacakjmbaaGreatDoor
