import Derived.Test.YtpfkkmacakjmbaaGreatDoorP27
import Derived.Test.YtpfkkmacakjmbaaGreatDoorP22
set_option maxRecDepth 100000
set_option maxHeartbeats 6400000
set_option linter.all false
namespace Go.Proofs.YtpfkkmacakjmbaaGreatDoor
open Proofs.Tryz
section
open Go Go.RowKit Sp
attribute [local go_sem ↓] eF eG
section
variable {P:Nat->Prop} {w0 w w':World} {bw tx:Nat} {inp:ByteArray} {s:Ev} {vo vb:Value} {gs:List Nat} {fv:List Value} {cn:Int} {sn:Nat->Int} {l:List V}
/--The object that a reference names. -/
theorem ke (h:WdQ P w0 w bw tx inp s vo vb gs fv cn sn) (u:V) (hu:(∃n,u= .i n)\/u= .z\/ ∃k,u= .o k/\k<s.heap.length) (h4:s.heap.length<=4000):
  Calls prog 245 #[.pointer (some ⟨bw,0,none⟩),aI u] w λen w'=>B_ w w'/\en= .returned (.pointer (match u with| .o k=>(gs[k]?).map (λg=>⟨g,0,none⟩) |_=>none)):=by
 unfold aI;have c:=h.wd.lt
 have j: ∀(hx:xO u=0) (hm: ∀k,u≠ .o k),Calls prog 245 #[.pointer (some ⟨bw,0,none⟩),.agg #[.int .i32 (xN u),.int .i64 (xO u)]] w λen w'=>B_ w w'/\en= .returned (.pointer none):=λhx hm=>by
  rw[hx];clear hx hm hu h
  go_in
  go_wp2_with fail
  go_quiet (fail)
  go_wp2_with fail;go_ret;exact⟨(ag _ _ _).trans (bp _ _ _),rfl⟩
 obtain⟨n,rfl⟩ |rfl| ⟨k,rfl,y⟩:=hu
 .exact j rfl (λk h=>by cases h)
 .exact j rfl (λk h=>by cases h)
 .clear j;obtain⟨o,g,v,m,b,q,r,t⟩:=h.obj y;simp only[b,Option.map_some,xN,xO];have c4:=h.wd.c4;obtain⟨ab,capb,rfl⟩:=aA h.ob;obtain⟨gb,rfl,d,x,a⟩:=aL h.ob (by omega);have C:w.cell? ⟨gb,k,none⟩=some (.pointer (some ⟨g,0,none⟩)):=a _ _ (by simp[fW,b]);have e: ¬((k:Int)+1<=0):=by omega
  have f: ¬((s.heap.length:Int)<(k:Int)+1):=by omega
  have A:(k:Int)<(s.heap.length:Int):=by omega
  clear a m b q t;generalize s.heap.length=nh at*;have d1:decide ((k:Int)+1<=0)=false:=decide_eq_false e;have d2:decide ((nh:Int)<(k:Int)+1)=false:=decide_eq_false f;have D: ∀ob,(w.alloc ob).cell? ⟨bw,4,none⟩=some (.slice (some ⟨gb,0,none⟩) nh capb):=λob=>((ag (λ_=>False) w ob).cell (p:=⟨bw,4,none⟩) c (λh=>h)).trans c4
  go_in
  go_wp2_with fail
  go_quiet (fail)
  go_wp2_with fail;have E: ∀ob,(w.alloc ob).cell? ⟨gb,k,none⟩=some (.pointer (some ⟨g,0,none⟩)):=λob=>((ag (λ_=>False) w ob).cell (p:=⟨gb,k,none⟩) d (λh=>h)).trans C
  have B:=dV (k:Int) (by omega) (by omega);have l:=dV ((k:Int)+1-1) (by omega) (by omega)
  go_quiet (fail)
  go_wp2_with fail;go_ret;exact⟨((ag _ _ _).trans (bp _ _ _)).trans (bp _ _ _),rfl⟩
theorem jO (h:WdQ P w0 w bw tx inp s vo vb gs fv cn sn) (h4:s.heap.length<=4000):
  Calls prog 245 #[.pointer (some ⟨bw,0,none⟩),.agg #[.int .i32 0,.int .i64 0]] w λen w'=>B_ w w'/\en= .returned (.pointer none):=ke h .z (Or.inr (Or.inl rfl)) h4
theorem jP (h:WdQ P w0 w bw tx inp s vo vb gs fv cn sn) (h4:s.heap.length<=4000) {k g:Nat} (hk:k<s.heap.length) (hg:gs[k]?=some g):
  Calls prog 245 #[.pointer (some ⟨bw,0,none⟩),.agg #[.int .i32 0,.int .i64 ((k:Int)+1)]] w λen w'=>B_ w w'/\en= .returned (.pointer (some ⟨g,0,none⟩)):=by
 have:=ke h (.o k) (Or.inr (Or.inr ⟨k,rfl,hk⟩)) h4;simp only[hg,Option.map_some]at this;exact this
theorem Cj (h:WdQ P w0 w bw tx inp s vo vb gs fv cn sn) (h4:s.heap.length<=4000):
  Calls prog 228 #[.pointer (some ⟨bw,0,none⟩),.agg #[.int .i32 0,.int .i64 0]] w λen w'=>B_ w w'/\en= .returned (.int .u8 45):=by
 have b:=hid (λX (hX:B_ w X)=>jO (h.new hX) h4);clear h
 go_in
 go_wp2_with fail;refine(b.out _ (ag _ _ _)).mono ?_;rintro en w1 ⟨a,rfl⟩;go_wp2_with fail;go_ret;exact⟨(ag _ _ _).trans a,rfl⟩
theorem Ck (h:WdQ P w0 w bw tx inp s vo vb gs fv cn sn) (h4:s.heap.length<=4000) {k:Nat} {o:Ob} (hk:s.heap[k]?=some o):
  Calls prog 228 #[.pointer (some ⟨bw,0,none⟩),.agg #[.int .i32 0,.int .i64 ((k:Int)+1)]] w λen w'=>B_ w w'/\en= .returned (.int .u8 (65+o.cls:Nat)):=by
 have d:=(bn hk).1;obtain⟨o',g,v,i,j,l,a,m⟩:=h.obj d;rw[hk]at i
 cases i
 have f:=hid (λX (hX:B_ w X)=>jP (h.new hX) h4 d j);have e:=ae a;clear h hk j l m
 go_in
 go_wp2_with fail;refine(f.out _ (ag _ _ _)).mono ?_;rintro en w1 ⟨b,rfl⟩;have c:B_ w w1:=(ag _ _ _).trans b;have hx:=(c.block g e (λh=>h)).trans a;have x0:=ce0 hx;clear f b a;go_wp2_with fail;go_ret;exact⟨c,rfl⟩
theorem Cl (h:WdQ P w0 w bw tx inp s vo vb gs fv cn sn) (h4:s.heap.length<=4000) (j:Nat):
  Calls prog 237 #[.pointer (some ⟨bw,0,none⟩),.agg #[.int .i32 0,.int .i64 0],.int .i64 j] w λen w'=>B_ w w'/\en= .returned (.tuple #[.agg #[.int .i32 0,.int .i64 0],.int .i64 2]):=by
 have d:=hid (λX (hX:B_ w X)=>jO (h.new hX) h4);clear h
 go_in
 go_wp2_with fail;refine(d.out _ ((ag _ _ _).trans (ag _ _ _))).mono ?_;rintro en w1 ⟨a,rfl⟩;have b:dE w1 (w.heap.size+1):=dE.but ⟨0,0,aw (by simp) _⟩ a (λh=>h);have c:B_ w w1:=((ag _ _ _).trans (ag _ _ _)).trans a;obtain⟨g,i,r0,n,l,m,f⟩:=b.parts;clear a d;go_wp2_with fail;exact dI results237 rfl rfl rfl (b.put _ _) ⟨c.next (dH _ _ _ _) (λk hk e=>by have e:k=w.heap.size+1:=e;omega),rfl⟩
theorem Cm (h:WdQ P w0 w bw tx inp s vo vb gs fv cn sn) (h4:s.heap.length<=4000) {k:Nat} {o:Ob} (hk:s.heap[k]?=some o) (j:Nat) (u:V) (hu:o.fs[j]?=some u):
  Calls prog 237 #[.pointer (some ⟨bw,0,none⟩),.agg #[.int .i32 0,.int .i64 ((k:Int)+1)],.int .i64 j] w λen w'=>B_ w w'/\en= .returned (.tuple #[aI u,.int .i64 0]):=by
 have i:=(bn hk).1;have D:=(bn hu).1;obtain⟨o',g,v,q,r,z,c,m⟩:=h.obj i;rw[hk]at q
 cases q
 have p:=hid (λX (hX:B_ w X)=>jP (h.new hX) h4 i r);have n:=ae c;obtain⟨af,cf,rfl⟩:=aA m;obtain⟨gf,rfl,f,t,a⟩:=aL m (by omega);have x:w.cell? ⟨gf,j*2,none⟩=some (.int .i32 (xN u)):=a _ _ (bJ (k:=0) hu (by omega));have y:w.cell? ⟨gf,j*2+1,none⟩=some (.int .i64 (xO u)):=a _ _ (bJ (k:=1) hu (by omega));have A: ¬((j:Int)<0):=by omega
 have B: ¬((o.fs.length:Int)<=(j:Int)):=by omega
 have C:(j:Int)<(o.fs.length:Int):=by omega
 clear h hk r z m hu a;unfold aI;generalize o.fs.length=nf at*
 go_in
 go_wp2_with fail;refine(p.out _ ((ag _ _ _).trans (ag _ _ _))).mono ?_;rintro en w1 ⟨d,rfl⟩;have l:dE w1 (w.heap.size+1):=dE.but ⟨0,0,aw (by simp) _⟩ d (λh=>h);have b:B_ w w1:=((ag _ _ _).trans (ag _ _ _)).trans d;have hx:=(b.block g n (λh=>h)).trans c;have x1:=ce1 hx;have J:=b.kc x f;have L:=b.kc y f;obtain⟨F,G,r0,M,H,I,E⟩:=l.parts;clear d p x y c hx;go_wp2_with fail;exact dI results237 rfl rfl rfl (l.put _ _) ⟨b.next (dH _ _ _ _) (λk hk e=>by have e:k=w.heap.size+1:=e;omega),rfl⟩
theorem vO (h:WdQ P w0 w bw tx inp s vo vb gs fv cn sn) (h4:s.heap.length<=4000) (j:Nat) (u:V):
  Calls prog 238 #[.pointer (some ⟨bw,0,none⟩),.agg #[.int .i32 0,.int .i64 0],.int .i64 j,aI u] w λen w'=>B_ w w'/\en= .returned (.int .i64 2):=by
 have b:=hid (λX (hX:B_ w X)=>jO (h.new hX) h4);clear h;unfold aI
 go_in
 go_wp2_with fail;refine(b.out _ ((ag _ _ _).trans (ag _ _ _))).mono ?_;rintro en w1 ⟨a,rfl⟩;go_wp2_with fail;go_ret;exact⟨((ag _ _ _).trans (ag _ _ _)).trans a,rfl⟩
theorem vP (h:WdQ P w0 w bw tx inp s vo vb gs fv cn sn) (h4:s.heap.length<=4000) {k:Nat} {o:Ob} (hk:s.heap[k]?=some o) (j:Nat) (u:V) (hj:j<o.fs.length):
  Calls prog 238 #[.pointer (some ⟨bw,0,none⟩),.agg #[.int .i32 0,.int .i64 ((k:Int)+1)],.int .i64 j,aI u] w λen w'=>But (FrQ P w0) w w'/\en= .returned (.int .i64 0)/\WdQ P w0 w' bw tx inp (s.put k j u) vo vb gs fv cn sn:=by
 have r:=(bn hk).1;obtain⟨u',D⟩: ∃u',o.fs[j]?=some u':=⟨_,aM hj⟩;obtain⟨o',g,v,J,A,B,m,z⟩:=h.obj r;rw[hk]at J
 cases J
 have H:=hid (λX (hX:B_ w X)=>jP (h.new hX) h4 r A);have C:=ae m;obtain⟨af,cf,rfl⟩:=aA z;obtain⟨gf,rfl,i,L,d⟩:=aL z (by omega);have E:w.cell? ⟨gf,j*2,none⟩=some (.int .i32 (xN u')):=d _ _ (bJ (k:=0) D (by omega));have G:w.cell? ⟨gf,j*2+1,none⟩=some (.int .i64 (xO u')):=d _ _ (bJ (k:=1) D (by omega));obtain⟨cur,f⟩:=dw z (g:=gf) rfl;have O:=cw w gf (j*2) _ _ f;have Q:=cw w gf (j*2+1) _ _ f;have q:FrQ P w0 gf:=h.k8 (a9 B) (g:=gf) rfl;have S:=hid (λX (hX:B_ w X)=>(h.new hX).setF hk A B (g:=gf) rfl j u);have T:0<=(j:Int):=by omega
 have Y:(j:Int)<(o.fs.length:Int):=by omega
 clear h hk A B z D d f;unfold aI;generalize o.fs.length=nf at*
 go_in
 go_wp2_with fail;refine(H.out _ ((ag _ _ _).trans (ag _ _ _))).mono ?_;rintro en w1 ⟨n,rfl⟩;have b:B_ w w1:=((ag _ _ _).trans (ag _ _ _)).trans n;have l:=(n.block (w.heap.size+1) (by simp) (λh=>h)).trans (aw (by simp) (.cells #[.int .i32 (xN u),.int .i64 (xO u)] 168));have hx:=(b.block g C (λh=>h)).trans m;have x1:=ce1 hx;have v0:=ce0 l;have v1:=ce1 l;have M:=ae l;have Z:=ae hx;have e:=aP i b.size;have t:=b.kc E i;have x:=b.kc G i;have p2:=b.kz O i;have y:=b.kz Q i;clear n H E G O Q m hx l;go_wp2_with fail;have I:=hid (And.intro t (And.intro x (And.intro p2 y)));clear t x p2 y
 have c:B_ w1 w1.drew:=aD _ _;refine aF (B_ w1) 7 ?_
 iterate 7 (refine aN (v:=?_) rfl c ?_ ?_;rotate_left;(focus (intro wS h;have E:=(h.kc x1 Z);have G:=(h.kc v0 M);have q2:=(h.kc v1 M);clear h;go_simp;try rfl));dsimp only[Act.put];try simp only[bW])
 obtain⟨t,x,p2,y⟩:=I.out;have t0:=c.kc t e;have t1:=c.kc x e;have t2:=c.kz p2 e;have t3:=c.kz y e;have p:=b.trans c;clear x1 v0 v1 c I t x p2 y;generalize w1.drew=wd at*;refine md rfl ?_;go_wp2_with fail;go_ret;exact⟨(p.mono (λ_ _ h=>h.elim)).trans ((But.setCell wd (a:=⟨gf,j*2,none⟩) (F:=FrQ P w0) q _).trans (But.setCell _ (a:=⟨gf,j*2+1,none⟩) q _)),rfl,S.out wd p⟩
theorem DJ (h:WdQ P w0 w bw tx inp s vo vb gs fv cn sn) (h4:s.heap.length<=4000) (c:UInt8):
  Calls prog 239 #[.pointer (some ⟨bw,0,none⟩),.agg #[.int .i32 0,.int .i64 0],.int .u8 c.toNat] w λen w'=>B_ w w'/\en= .returned (.tuple #[.agg #[.int .i32 0,.int .i64 0],.int .i64 0]):=by
 have g:=hid (λX (hX:B_ w X)=>jO (h.new hX) h4);clear h
 go_in
 go_wp2_with fail;refine(g.out _ ((ag _ _ _).trans (ag _ _ _))).mono ?_;rintro en w1 ⟨a,rfl⟩;have b:=(a.block w.heap.size (by simp;omega) (λh=>h)).trans (((ag (λ_=>False) _ _).block _ (by simp) (λh=>h)).trans (bj w (.cells #[.int .i32 0,.int .i64 0] 168)));have v0:=ce0 b;have v1:=ce1 b;have d:dE w1 (w.heap.size+1):=dE.but ⟨0,0,aw (by simp) _⟩ a (λh=>h);have f:B_ w w1:=((ag _ _ _).trans (ag _ _ _)).trans a;obtain⟨l,m,r0,q,n,p,j⟩:=d.parts;have i:=ae b;clear a g b;go_wp2_with fail
 go_quiet (fail)
 go_wp2_with fail;exact dI results239 rfl rfl rfl ((d.but (bp (λ_=>False) _ _) (λh=>h)).put _ _) ⟨(f.trans (bp _ _ _)).next (dH _ _ _ _) (λk hk e=>by have e:k=w.heap.size+1:=e;omega),rfl⟩
theorem DK (h:WdQ P w0 w bw tx inp s vo vb gs fv cn sn) (h4:s.heap.length<=4000) {k:Nat} {o:Ob} (hk:s.heap[k]?=some o) (cs:List bP) (hn:cs.length<=100) (hT:TxC w0 tx cs) (a c:UInt8) (ha:a.toNat=65+o.cls):
  Calls prog 239 #[.pointer (some ⟨bw,0,none⟩),.agg #[.int .i32 0,.int .i64 ((k:Int)+1)],.int .u8 c.toNat] w λen w'=>B_ w w'/\en= .returned (if dT cs c cs.length a=true then .tuple #[.agg #[.int .i32 0,.int .i64 ((k:Int)+1)],.int .i64 0]else .tuple #[.agg #[.int .i32 0,.int .i64 0],.int .i64 4]):=by
 have l:=(bn hk).1;obtain⟨o',g,v,y,z,B,d,C⟩:=h.obj l;rw[hk]at y
 cases y
 have x:=hid (λX (hX:B_ w X)=>jP (h.new hX) h4 l z);have q:=ae d;have D:=h.wd.lt;have t:=hid h.wd;have m:=hid (λX (hX:B_ w X)=>qm tx cs a c X hn (hT.but (h.old.trans hX)));obtain⟨r,A⟩: ∃r,dT cs c cs.length a=r:=⟨_,rfl⟩;rw[A]at m⊢;rw[<-ha]at d;clear h hk z B C A ha
 go_in
 go_wp2_with fail;refine(x.out _ ((ag _ _ _).trans (ag _ _ _))).mono ?_;rintro en w1 ⟨f,rfl⟩;have i:=(f.block w.heap.size (by simp;omega) (λh=>h)).trans (((ag (λ_=>False) _ _).block _ (by simp) (λh=>h)).trans (bj w (.cells #[.int .i32 0,.int .i64 ((k:Int)+1)] 168)));have v0:=ce0 i;have v1:=ce1 i;have j:dE w1 (w.heap.size+1):=dE.but ⟨0,0,aw (by simp) _⟩ f (λh=>h);have b:B_ w w1:=((ag _ _ _).trans (ag _ _ _)).trans f;have hx:=(b.block g q (λh=>h)).trans d;have x0:=ce0 hx;have c0:=(t.out.but b (λh=>h)).c0;obtain⟨G,H,r0,L,I,J,F⟩:=j.parts;have E:=ae i;clear f x i t hx d
 have p:=hid (λn=>m.out (w1.drewN n) (b.trans (bp _ _ _)));clear m;go_wp2_with fail
 go_quiet (exact Calls.quiet_of_same (p.out _))
 cases r with
 |true=>
  go_wp2_with fail;exact dI results239 rfl rfl rfl ((j.but (bp (λ_=>False) _ _) (λh=>h)).put _ _) ⟨(b.trans (bp _ _ _)).next (dH _ _ _ _) (λk hk e=>by have e:k=w.heap.size+1:=e;omega),rfl⟩
 |false=>
  go_wp2_with fail;exact dI results239 rfl rfl rfl ((j.but (bp (λ_=>False) _ _) (λh=>h)).put _ _) ⟨(b.trans (bp _ _ _)).next (dH _ _ _ _) (λk hk e=>by have e:k=w.heap.size+1:=e;omega),rfl⟩
theorem WdQ.newOb {w2:World} {gq base:Nat} {vf vb':Value} {o:Ob} (h:WdQ P w0 w bw tx inp s vo vb gs fv cn sn) (ho:XoC w gq (65+o.cls) vf 0) (hf:w.ownsRow base 168 2 vf o.fs.length (az o.fs)) (hb:w0.heap.size<=base)
  (hq:w0.heap.size<=gq/\ ¬P gq/\gq∉gs) (hfn: ∀g,vf.ownBlock=some g-> ¬P g/\ ∀v∈fv,v.ownBlock≠some g) (hB:But (λk=>vb.ownBlock=some k) w w2) (hown:w2.ownsRow w0.heap.size 315 1 vb' (s.heap.length+1) (fW gs++ [.pointer (some ⟨gq,0,none⟩)])) (hP: ∀g,vb'.ownBlock=some g-> ¬P g):
  WdQ P w0 (w2.setCell ⟨bw,4,none⟩ vb') bw tx inp {s with heap:=s.heap++ [o]} vo vb' (gs++ [gq]) (fv++ [vf]) cn (λk=>if k=s.heap.length then 0 else sn k):=by
 have A:But (· =bw) w2 (w2.setCell ⟨bw,4,none⟩ vb'):=aq _ _ _ _;have B:XwC w2 bw tx inp (min s.read inp.size:Nat) vo vb cn:=h.wd.but hB (aE h.ob h.wd (by decide));have row: ∀{v:Value} {t b n z:Nat} {xs:List Value},t≠315->t≠211->w.ownsRow b t z v n xs->(w2.setCell ⟨bw,4,none⟩ vb').ownsRow b t z v n xs:=λp m hr=>ah (ah hr hB (λg l=>lV hr h.ob p l)) A (λg l e=>aE hr h.wd m (e▸l))
 have blk: ∀{k t:Nat} {c:Array Value} {fr:Nat×Nat},t≠315->t≠211->w.heap[k]?=some (.cells c t fr)->(w2.setCell ⟨bw,4,none⟩ vb').heap[k]?=some (.cells c t fr):=λp m d=>by
  have C:=(hB.block _ (ae d) (λf=>aE h.ob d (Ne.symm p) f)).trans d;exact(A.block _ (ae C) (bL d h.wd (Ne.symm m))).trans C
 refine⟨(h.old.next hB (λk d f=>by have:=(h.k5 f).1;omega)).next A (λk d e=>by have e:k=bw:=e;have:=h.k2.1;omega),B.set4 vb',row (by decide) (by decide) h.out,?_,by simp[h.lg],by simp[h.lf],?_,?_,?_,?_,?_,h.se.1,λk=> ?_⟩
 .rw[aV,show fW (gs++ [gq])=fW gs++ [.pointer (some ⟨gq,0,none⟩)]from by simp[fW]];exact ah hown A (λg l e=>aE hown B (by decide) (e▸l))
 .intro k o' g v d l f;obtain⟨p,m⟩ | ⟨p,rfl⟩:=gT d
  .obtain⟨i,q⟩ | ⟨i,_⟩:=gT l
   .obtain⟨D,G⟩ | ⟨D,_⟩:=gT f
    .obtain⟨x,y⟩:=h.obs k o' g v m q G;rw[if_neg (by omega)];exact⟨blk (by decide) (by decide) x,row (by decide) (by decide) y⟩
    .rw[h.lf]at D;omega
   .rw[h.lg]at i;omega
  .obtain⟨i,_⟩ | ⟨_,rfl⟩:=gT l
   .rw[h.lg]at i;omega
   .obtain⟨D,_⟩ | ⟨_,rfl⟩:=gT f
    .rw[h.lf]at D;omega
    .rw[if_pos p];exact⟨blk (by decide) (by decide) ho,Ad (row (by decide) (by decide) hf) hb⟩
 .intro j k g E d;obtain⟨p,m⟩ | ⟨p,rfl⟩:=gT E
  .obtain⟨i,q⟩ | ⟨i,rfl⟩:=gT d
   .exact h.nd j k g m q
   .exact absurd (a9 m) hq.2.2
  .obtain⟨i,q⟩ | ⟨i,_⟩:=gT d
   .exact absurd (a9 q) hq.2.2
   .omega
 .intro k d;obtain rfl|d|d|d| ⟨v,f,d⟩:=d
  .exact h.k2
  .exact h.k4 d
  .exact⟨aC hown k d,hP k d⟩
  .obtain d|d:=gH d
   .exact h.k7 d
   .rw[List.mem_singleton]at d;subst d;exact⟨hq.1,hq.2.1⟩
  .obtain f|f:=gH f
   .exact h.k8 f d
   .rw[List.mem_singleton]at f;subst f;exact⟨Nat.le_trans hb (aC hf k d),(hfn k d).1⟩
 .intro k d;obtain⟨a,b⟩:=h.pl k d;have C:=hB.block k a (λf=>(h.k5 f).2 d);have F:=A.block k (aP a hB.size) (λe=>h.k2.2 (e▸d));refine⟨by rw[cJ];exact aP a hB.size,λc fz e=> ?_⟩;rw[F,C]at e;exact b c fz e
 .intro j k v v' g E d l r;obtain⟨p,m⟩ | ⟨p,rfl⟩:=gT E
  .obtain⟨i,q⟩ | ⟨i,rfl⟩:=gT d
   .exact h.sf j k v v' g m q l r
   .exact absurd l ((hfn g r).2 v (a9 m))
  .obtain⟨i,q⟩ | ⟨i,rfl⟩:=gT d
   .exact absurd r ((hfn g l).2 v' (a9 q))
   .omega
 .by_cases e:k=s.heap.length
  .rw[if_pos e];exact⟨eH _,h.se.1⟩
  .rw[if_neg e];exact h.se.2 k
theorem WdQ.res {X:World} (h:WdQ P w0 w bw tx inp s vo vb gs fv cn sn) (hB:B_ w X) {r:Nat} (hr:w.heap.size<=r) (a b:Value):WdQ P w0 ((X.setCell ⟨r,0,none⟩ a).setCell ⟨r,1,none⟩ b) bw tx inp s vo vb gs fv cn sn:=
 (h.new hB).but (dH X r a b) (λk e=>by have e:k=r:=e;have:=h.old.size;omega) (λk hk e=>by have e:k=r:=e;have:=h.lt hk;omega) (λk hk e=>by have e:k=r:=e;have:=(h.pl k hk).1;omega)
theorem rI (h:WdQ P w0 w bw tx inp s vo vb gs fv cn sn) (h40:inp.size<=40):
  Calls prog 232 #[.pointer (some ⟨bw,0,none⟩)] w λen w'=>But (FrQ P w0) w w'/\en= .returned (aI (.i (jA inp s.read)))/\WdQ P w0 w' bw tx inp {s with read:=s.read+1} vo vb gs fv cn sn:=by
 unfold aI;simp only[xN,xO];have d:=h.wd.lt;have c1:=h.wd.c1;have c2:=h.wd.c2;have B:=h.wd.fz 2
 by_cases hr:s.read<inp.size
 .have e:min s.read inp.size=s.read:=by omega
  rw[e]at c2;have d1:decide ((s.read:Int)<0)=false:=decide_eq_false (by omega);have d2:decide ((inp.size:Int)<=(s.read:Int))=false:=decide_eq_false (by omega);have O:(s.read:Int)<(inp.size:Int):=by omega
  have g:jA inp s.read=(inp[s.read].toNat:Int):=by unfold jA;rw[dif_pos hr]
  rw[g];have p:=hid h;have q:=hid h;have G:=inp[s.read].toNat_lt;have t:=h.k2;clear e g h
  go_in
  go_wp2_with fail
  go_quiet (fail)
  go_wp2_with fail;have b:B_ w ((w.alloc (.cells #[.int .i32 0,.int .i64 0] 168)).drewN nq):=(ag _ _ _).trans (bp _ _ _);have f:dE ((w.alloc (.cells #[.int .i32 0,.int .i64 0] 168)).drewN nq) w.heap.size:=⟨0,0,bj _ _⟩;revert b f;generalize ((w.alloc (.cells #[.int .i32 0,.int .i64 0] 168)).drewN nq)=X;intro b f;have C:=b.kc c1 d;have D:=b.kc c2 d;have E:=b.kz B d;have x:=aP d b.size;clear nq
  go_quiet (fail)
  have c:=b.trans (bp (λ_=>False) X nq);have j:=f.but (bp (λ_=>False) X nq) (λh=>h);have l:=hid ((p.out.new c).readd (n:=s.read+1) (by omega));have z:=c.kc c2 d;have A:=c.kz B d;clear C D E f p;revert c j l z A;generalize X.drewN nq=Y;intro c j l z A;have y:=aP d c.size;obtain⟨I,J,r0,Q,L,M,H⟩:=j.parts;have v: ¬bw=w.heap.size:=by omega
  have m:=l.out;rw[show((s.read+1:Nat):Int)=(s.read:Int)+1 from by simp]at m;go_wp2_with fail;have r:But (FrQ P w0) w (Y.setCell ⟨bw,2,none⟩ (.int .i64 ((s.read:Int)+1))):=(c.mono (λ_ _ h=>h.elim)).trans (But.setCell Y (a:=⟨bw,2,none⟩) (F:=FrQ P w0) t _)
  exact sA results232 rfl rfl ((j.but (aq _ _ _ _) (λe=>v e.symm)).put _ _) ⟨r.next (dH _ _ _ _) (λk hk e=>by have e:k=w.heap.size:=e;omega),rfl,
   m.but (dH _ _ _ _) (λk e=>by have e:k=w.heap.size:=e;have:=q.out.old.size;omega) (λk hk e=>by have e:k=w.heap.size:=e;have:=q.out.lt hk;omega) (λk hk e=>by have e:k=w.heap.size:=e;have:=(q.out.pl k hk).1;omega)⟩
 .have e:min s.read inp.size=inp.size:=by omega
  rw[e]at c2;have d1:decide ((inp.size:Int)<0)=false:=decide_eq_false (by omega);have d2:decide ((inp.size:Int)<=(inp.size:Int))=true:=decide_eq_true (by omega);have g:jA inp s.read= -1:=by unfold jA;rw[dif_neg hr]
  rw[g];have p:=hid (h.unread (by omega));clear e g h
  go_in
  go_wp2_with fail
  go_quiet (fail)
  go_wp2_with fail;have b:B_ w ((w.alloc (.cells #[.int .i32 0,.int .i64 0] 168)).drewN nq):=(ag _ _ _).trans (bp _ _ _);have f:dE ((w.alloc (.cells #[.int .i32 0,.int .i64 0] 168)).drewN nq) w.heap.size:=⟨0,0,bj _ _⟩;exact sA results232 rfl rfl (f.put _ _) ⟨(b.mono (λ_ _ h=>h.elim)).next (dH _ _ _ _) (λk hk e=>by have e:k=w.heap.size:=e;omega),rfl,p.out.res b (bG _) _ _⟩
theorem qT (h:WdQ P w0 w bw tx inp s vo vb gs fv cn sn) (h4:s.heap.length<=4000) (cs:List bP) (hn:cs.length<=100) (hT:TxC w0 tx cs) (c:UInt8) (o:Ob) (hc:c.toNat=65+o.cls) (ts:L_) (hts:bV cs c=ts) (ht5:ts.length<=100) (hof:o.fs=ts.map du):
  Calls prog 236 #[.pointer (some ⟨bw,0,none⟩),.int .u8 c.toNat] w λen w'=>But (FrQ P w0) w w'/\en= .returned (aI (.o s.heap.length))/\ ∃vb' gs' fv' sn',WdQ P w0 w' bw tx inp {s with heap:=s.heap++ [o]} vo vb' gs' fv' cn sn':=by
 have L:=hid (λX (hX:B_ w X)=>nM tx cs c X hn (hT.but (h.old.trans hX)));rw[hts]at L;have Y:=vM ts.length (by omega);have c0:=h.wd.c0;have C:=h.wd.lt;obtain⟨ab,capb,rfl⟩:=aA h.ob;have c4:=h.wd.c4;have z4:=h.wd.fz 4;have r:=h.ob;have O:=h.old.size;have l:=hid h;have HC:=hid hc;have HO:=hid hof;clear h hc hts hof;have a7:bw<w.heap.size+1:=by omega
 have a8:bw<w.heap.size+1+1:=by omega
 have b0:bw<w.heap.size+1+1+1:=by omega
 obtain⟨i0,T,a3,a4,a5⟩:=info_parts DH;obtain⟨W,i⟩: ∃W,((w.alloc (.cells #[.int .i32 0,.int .i64 0] 168)).alloc (.cells (iG ts.length).toArray 168)).alloc (.cells #[.int .u8 c.toNat,.slice (some ⟨w.heap.size+1,0,none⟩) ts.length ts.length,.int .i64 0] 318)=W:=⟨_,rfl⟩;have m:B_ w W:=by rw[<-i];exact((ag _ _ _).trans (ag _ _ _)).trans (ag _ _ _)
 have I:W.heap.size=w.heap.size+1+1+1:=by rw[<-i];simp
 have G:dE W w.heap.size:=by rw[<-i];exact⟨0,0,(((ag (λ_=>False) _ _).trans (ag _ _ _)).block _ (by simp) (λh=>h)).trans (bj w _)⟩
 have D:W.heap[w.heap.size+1]?=some (.cells (iG ts.length).toArray 168):=by rw[<-i];exact((ag (λ_=>False) _ _).block _ (by simp) (λh=>h)).trans (aw (by simp) _)
 have E:W.heap[w.heap.size+1+1]?=some (.cells #[.int .u8 c.toNat,.slice (some ⟨w.heap.size+1,0,none⟩) ts.length ts.length,.int .i64 0] 318):=by rw[<-i];exact aw (by simp) _
 have A:=hid i;clear i;have B:=ah r m (λ_ _ h=>h)
 go_in
 go_wp2_with fail;refine(L.out _ (ag _ _ _)).mono ?_;rintro en w1 ⟨rfl,J⟩;rw[J];clear J w1;go_wp2_with (at_builtin;rw[A.out];refine wpList_append_lies _ rfl _ _ _ rfl w0.heap.size 315 i0 _ 1 8 (by kernel_rfl) T a3 a4 a5 rfl (by omega) _ s.heap.length (fW gs) rfl (ah B (ag (λ_=>False) _ _) (λ_ _ h=>h)) ⟨w.heap.size+1+1+1,0,none⟩ 1 1 [.pointer (some ⟨w.heap.size+1+1,0,none⟩)] rfl rfl (iO (cs:=#[.pointer (some ⟨w.heap.size+1+1,0,none⟩)]) (t:=315) (fr:=(0,0)) (aw I _)) (by simp[Value.oneCell']) (by omega) (by unfold maxLen;omega) (by omega) (by simp;omega) (w.heap.size+1+1+1+1) (by simp[I]) ?_)
 intro gg j w2 q n d a0;have f:But (λk=>(Value.slice ab s.heap.length capb).ownBlock=some k) W w2:=(ag _ _ _).trans (bD n);have H:(Value.slice ab s.heap.length capb).ownBlock≠some bw:=aE r l.out.wd (by decide);have x:bw<W.heap.size:=by omega
 have y4:=(f.cell (p:=⟨bw,4,none⟩) x H).trans (m.kc c4 C);have y5:=(f.frozen (p:=⟨bw,4,none⟩) x H).trans (m.kz z4 C);have a6:bw<w2.heap.size:=aP x f.size;have z:dE w2 w.heap.size:=G.but f (λhv=>by have:=bB r _ hv;omega);have y: ∀k,qR bw vo (.slice ab s.heap.length capb) gs fv k->k<w.heap.size:=λk b=>l.out.lt b
 have a2:=(l.out.new m).newOb (o:=o) (gq:=w.heap.size+1+1) (vf:= .slice (some ⟨w.heap.size+1,0,none⟩) ts.length ts.length) (vb':= .slice (some ⟨gg,0,none⟩) (s.heap.length+1) j) (by rw[<-HC.out];exact E) (by rw[HO.out,bZ];exact vN (base:=w.heap.size) (by omega) D (by omega)) O
  ⟨by omega,λhp=>by have:=(l.out.pl _ hp).1;omega,λhm=>by have:=y _ (Or.inr (Or.inr (Or.inr (Or.inl hm))));omega⟩
  (λg hg=>by
   simp only[Value.ownBlock,Option.some.injEq]at hg;subst hg;exact⟨λhp=>by have:=(l.out.pl _ hp).1;omega,λv hv hl=>by have:=y _ (Or.inr (Or.inr (Or.inr (Or.inr ⟨v,hv,hl⟩))));omega⟩)
  f q (λg hg hp=>by
   simp only[Value.ownBlock,Option.some.injEq]at hg;subst hg;obtain d|d:=d
   .exact(l.out.k5 d).2 hp
   .have:=(l.out.pl _ hp).1;omega)
 have Q:But (FrQ P w0) w (w2.setCell ⟨bw,4,none⟩ (.slice (some ⟨gg,0,none⟩) (s.heap.length+1) j)):=((m.mono (λ_ _ h=>h.elim)).trans (f.mono (λk _ hv=>l.out.k5 hv))).trans (But.setCell w2 (a:=⟨bw,4,none⟩) (F:=FrQ P w0) l.out.k2 _);have Z:=z.but (aq w2 bw 4 (.slice (some ⟨gg,0,none⟩) (s.heap.length+1) j)) (λe=>by have e:w.heap.size=bw:=e;omega)
 have S: ∀k,qR bw vo (.slice (some ⟨gg,0,none⟩) (s.heap.length+1) j) (gs++ [w.heap.size+1+1]) (fv++ [.slice (some ⟨w.heap.size+1,0,none⟩) ts.length ts.length]) k->k≠w.heap.size:=by
  intro k b;have old: ∀{k},qR bw vo (.slice ab s.heap.length capb) gs fv k->k≠w.heap.size:=λb=>by have:=y _ b;omega
  obtain rfl|b|b|b| ⟨v,hv,b⟩:=b
  .exact old (Or.inl rfl)
  .exact old (Or.inr (Or.inl b))
  .simp only[Value.ownBlock,Option.some.injEq]at b;subst b;obtain d|d:=d
   .exact old (Or.inr (Or.inr (Or.inl d)))
   .omega
  .obtain b|b:=gH b
   .exact old (Or.inr (Or.inr (Or.inr (Or.inl b))))
   .rw[List.mem_singleton]at b;omega
  .obtain hv|hv:=gH hv
   .exact old (Or.inr (Or.inr (Or.inr (Or.inr ⟨v,hv,b⟩))))
   .rw[List.mem_singleton]at hv;subst hv;simp only[Value.ownBlock,Option.some.injEq]at b;omega
 have M:Hid (∀k,P k->k<w.heap.size):=λk b=>(l.out.pl k b).1
 obtain⟨K9,N9,r0,r1,f0,f1,b2⟩:=z.parts;have b1: ¬bw=w.heap.size:=by omega
 have a1: ¬w.heap.size=bw:=by omega
 clear L Y c0 c4 z4 HO HC D E G B r q n d A z f l;go_wp2_with fail
 exact sA results236 rfl rfl (Z.put _ _) ⟨Q.next (dH _ _ _ _) (λk b e=>by have e:k=w.heap.size:=e;omega),rfl,_,_,_,_,
  a2.but (dH _ _ _ _) (λk e=>by have e:k=w.heap.size:=e;omega) (λk b e=>S k b e) (λk b e=>by have e:k=w.heap.size:=e;have:=M.out k b;omega)⟩
theorem dK.frameW (h:WdQ P w0 w bw tx inp s vo vb gs fv cn sn) (ht:dK w0 w w'):But (FrQ P w0) w w':=by
 refine⟨ht.bel.os,ht.bel.tape,ht.bel.output,ht.bel.size,λk hk hf=> ?_⟩
 by_cases h0:k<w0.heap.size
 .exact ht.bel.block k h0
 .have hp:P k:=Classical.byContradiction λhp=>hf ⟨by omega,hp⟩
  rw[ht.kept k _ (Array.getElem?_eq_getElem hk) (λc fz e=>(h.pl k hp).2 c fz (by rw[Array.getElem?_eq_getElem hk,e])),Array.getElem?_eq_getElem hk]
theorem WdQ.say {vo':Value} {o:L_} (h:WdQ P w0 w bw tx inp s vo vb gs fv cn sn) (ht:dK w0 w w') (hrow:w'.ownsRow w0.heap.size 5 1 vo' o.length (Lib.byteCells o)):
  WdQ P w0 (w'.setCell ⟨bw,3,none⟩ vo') bw tx inp {s with out:=o} vo' vb gs fv cn sn:=by
 have l:But (· =bw) w' (w'.setCell ⟨bw,3,none⟩ vo'):=aq _ _ _ _;have d: ∀{k t:Nat} {c:Array Value} {fr:Nat×Nat},t≠5->w.heap[k]?=some (.cells c t fr)->w'.heap[k]?=some (.cells c t fr):=λh1 hk=>ht.kept _ _ hk (λc fz e=>by injection e with _ m;exact h1 m)
 have j:XwC w' bw tx inp (min s.read inp.size:Nat) vo vb cn:=d (by decide) h.wd;have blk: ∀{k t:Nat} {c:Array Value} {fr:Nat×Nat},t≠5->t≠211->w.heap[k]?=some (.cells c t fr)->(w'.setCell ⟨bw,3,none⟩ vo').heap[k]?=some (.cells c t fr):=λh1 h2 hk=>(l.block _ (ae (d h1 hk)) (bL hk h.wd (Ne.symm h2))).trans (d h1 hk)
 have row: ∀{v:Value} {t b n z:Nat} {xs:List Value},t≠5->t≠211->w.ownsRow b t z v n xs->(w'.setCell ⟨bw,3,none⟩ vo').ownsRow b t z v n xs:=λh1 h2 hr=>by
  refine⟨hr.1,?_⟩;obtain hr2| ⟨g,cap,cur,hv,hg,hh,r⟩:=hr.2
  .exact Or.inl hr2
  .exact Or.inr ⟨g,cap,cur,hv,hg,blk h1 h2 hh,r⟩
 have i:B_ w0 w':=⟨ht.bel.os.trans h.old.os,ht.bel.tape.trans h.old.tape,ht.bel.output.trans h.old.output,Nat.le_trans h.old.size ht.bel.size,λk hk _=>(ht.bel.block k hk).trans (h.old.block k hk (λh=>h))⟩
 have p: ∀g,vo'.ownBlock=some g-> ¬P g:=λg hg hp=>by
  obtain⟨cur,hc⟩:=dw hrow hg;obtain⟨a,b⟩:=h.pl g hp;have f:=ht.kept g _ (Array.getElem?_eq_getElem a) (λc fz e=>b c fz (by rw[Array.getElem?_eq_getElem a,e]));rw[f]at hc;exact b cur (0,0) (by rw[Array.getElem?_eq_getElem a];exact hc)
 refine⟨i.next l (λk hk e=>by have e:k=bw:=e;have:=h.k2.1;omega),j.set3 vo',ah hrow l (λg hg e=>aE hrow j (by decide) (e▸hg)),row (by decide) (by decide) h.ob,h.lg,h.lf,λk o g v a b c=>⟨blk (by decide) (by decide) (h.obs k o g v a b c).1,row (by decide) (by decide) (h.obs k o g v a b c).2⟩,h.nd,λk hk=> ?_,λk hk=> ?_,h.sf,h.se⟩
 .obtain rfl|hk|hk|hk| ⟨v,hv,hk⟩:=hk
  .exact h.k2
  .exact⟨aC hrow k hk,p k hk⟩
  .exact h.k5 hk
  .exact h.k7 hk
  .exact h.k8 hv hk
 .obtain⟨a,b⟩:=h.pl k hk;have f:=ht.kept k _ (Array.getElem?_eq_getElem a) (λc fz e=>b c fz (by rw[Array.getElem?_eq_getElem a,e]));have m:=l.block k (ae f) (λe=>h.k2.2 (e▸hk));refine⟨by rw[cJ];exact ae f,λc fz e=> ?_⟩;rw[m,f]at e;exact b c fz (by rw[Array.getElem?_eq_getElem a];exact e)
theorem vQ (h:WdQ P w0 w bw tx inp s vo vb gs fv cn sn) (ht:fd w0) (n:Int) (h1: -2147483648<=n) (h2:n<2147483648) (hol:s.out.length<=90000):
  Calls prog 233 #[.pointer (some ⟨bw,0,none⟩),.int .i32 n] w λen w'=>But (FrQ P w0) w w'/\en= .returned (.tuple #[])/\ ∃vo',WdQ P w0 w' bw tx inp (s.say n) vo' vb gs fv cn sn:=by
 have hT:Lib.TabBelow prog w0.heap.size w0 "internal/strconv.uint64pow10" .u64 Lib.pow10Tab:=Lib.tabBelow_of_tabIs ht;have E:=hT.on (AI h.old);have J:=hid (rD w0.heap.size s.out.length n h1 h2 vo _ w h.out h.old.size (by omega) E);have c3:=h.wd.c3;have a4:=h.wd.lt;have I:=hid h;obtain⟨ao,capo,rfl⟩:=aA h.out;clear h hT E;have X:=Lib.itoa_length_le n (by omega) (by omega);obtain⟨D,Q⟩: ∃D,Lib.itoa n=D:=⟨_,rfl⟩;rw[Q]at J X;have HD:=hid Q;clear Q
 go_in
 go_wp2_with fail;refine J.out.mono ?_;rintro en w1 ⟨v',rfl,f,A,d⟩;rw[<-Lib.byteCells_append,<-aV]at f;have B:dK w0 w w1:=⟨A,λk o hk hn=>d k o hk (by simp) hn⟩;have y:=I.out.say B f;have C:=dK.frameW I.out B;obtain⟨av,capv,rfl⟩:=aA f;have g:XwC w1 bw tx inp (min s.read inp.size:Nat) (.slice ao s.out.length capo) vb cn:=d _ _ I.out.wd (by simp) (λc fz e=>by injection e with _ e2;exact absurd e2 (by decide));have e3:=g.c3;have z3:=g.fz 3;have m1:=g.lt;obtain⟨m,hm⟩: ∃m,(s.out++D).length=m:=⟨_,rfl⟩;have a5:m<=95000:=by rw[<-hm];simp;omega
 have j:=y.out;simp only at j;rw[hm]at y j⊢;have HM:=hid hm;have M:=y.old.size;have G:=I.out.k2;have i:=hid y;clear J A d f B g hm y;have b:(w1.setCell ⟨bw,3,none⟩ (.slice av m capv)).heap.size=w1.heap.size:=cJ _ _ _;obtain⟨i0,T,Z,a1,a2⟩:=info_parts Ci;go_wp2_with (at_builtin;refine wpList_append_lies _ rfl _ _ _ rfl w0.heap.size 5 i0 _ 1 1 (by kernel_rfl) T Z a1 a2 rfl (by omega) _ m (Lib.byteCells (s.out++D)) rfl (ah j (ag (λ_=>False) _ _) (λ_ _ h=>h)) ⟨w1.heap.size,0,none⟩ 1 1 [.int .u8 32] rfl rfl (iO (cs:=#[.int .u8 32]) (t:=5) (fr:=(0,0)) (aw b _)) (by simp[Value.oneCell']) (by omega) (by unfold maxLen;omega) (by omega) (by simp;omega) (w1.heap.size+1) (by simp[b]) ?_)
 intro gg z w2 v r S a0;have l:But (λk=>(Value.slice av m capv).ownBlock=some k) (w1.setCell ⟨bw,3,none⟩ (.slice av m capv)) w2:=(ag _ _ _).trans (bD r);have q:dK w0 (w1.setCell ⟨bw,3,none⟩ (.slice av m capv)) w2:=dK.grown M j l
 have x:w2.ownsRow w0.heap.size 5 1 (.slice (some ⟨gg,0,none⟩) (m+1) z) (s.out++D++ [32]).length (Lib.byteCells (s.out++D++ [32])):=by
  have e1:(s.out++D++ [32]).length=m+1:=by rw[aV,HM.out];rfl
  rw[e1,Lib.byteCells_append];exact v
 have Y:=i.out.say q x;have H:=aE j i.out.wd (by decide);have y3:=(l.cell (p:=⟨bw,3,none⟩) (by rw[b];exact m1) H).trans i.out.wd.c3;have y4:=(l.frozen (p:=⟨bw,3,none⟩) (by rw[b];exact m1) H).trans (i.out.wd.fz 3);have a3:bw<w2.heap.size:=aP (by rw[b];exact m1) l.size
 have O:But (FrQ P w0) w (w2.setCell ⟨bw,3,none⟩ (.slice (some ⟨gg,0,none⟩) (m+1) z)):=
  ((C.trans (But.setCell w1 (a:=⟨bw,3,none⟩) (F:=FrQ P w0) G _)).trans (dK.frameW i.out q)).trans (But.setCell w2 (a:=⟨bw,3,none⟩) (F:=FrQ P w0) G _)
 have L:Hid (s.say n={s with out:=s.out++D++ [32]}):=by show _=_;simp[Ev.say,HD.out]
 clear q x l v r S i j e3 z3 c3 HM HD C;go_wp2_with fail;go_end0;exact⟨O,rfl,_,by rw[L.out];exact Y⟩
end
def ReW (P:Nat->Prop) (w0 w:World) (bw tx:Nat) (inp:ByteArray) (cn:Int) (r:R) (en:Ending) (w':World):Prop:=
 But (FrQ P w0) w w'/\ ∃vo vb gs fv sn,match r with
 | .ok u _ s=>en= .returned (.tuple #[aI u,.int .i64 0])/\WdQ P w0 w' bw tx inp s vo vb gs fv cn sn
 | .bad e o=>en= .returned (.tuple #[.agg #[.int .i32 0,.int .i64 0],.int .i64 (cr e)])/\ ∃s,s.out=o/\WdQ P w0 w' bw tx inp s vo vb gs fv cn sn
section
variable {P:Nat->Prop} {w0 w w':World} {bw tx:Nat} {inp:ByteArray} {s:Ev} {vo vb:Value} {gs:List Nat} {fv:List Value} {cn:Int} {sn:Nat->Int} {l:List V}
theorem WdQ.grown {X:World} (h:WdQ P w0 w bw tx inp s vo vb gs fv cn sn) (hN:NB w X):WdQ (PQ P w X) w0 X bw tx inp s vo vb gs fv cn sn:=h.grow hN.but hN.nb
theorem WdQ.fin {X X':World} {r:Nat} (hN:NB w X) (h0:w0.heap.size<=w.heap.size) (hs:WdQ (PQ P w X) w0 X' bw tx inp s vo vb gs fv cn sn) (hB:But (FrQ (PQ P w X) w0) X X') (hr:w.heap.size<=r) (hx:dE X r) (a b:Int):
  dE X' r/\But (FrQ P w0) w ((X'.setCell ⟨r,0,none⟩ (.int .i32 a)).setCell ⟨r,1,none⟩ (.int .i64 b))/\WdQ P w0 ((X'.setCell ⟨r,0,none⟩ (.int .i32 a)).setCell ⟨r,1,none⟩ (.int .i64 b)) bw tx inp s vo vb gs fv cn sn:=by
 have d:r<X.heap.size:=by obtain⟨K,N,hx⟩:=hx;exact ae hx
 have f:dE X' r:=hx.but hB (λhf=>hf.2 (Or.inr ⟨hr,d⟩));refine⟨f,?_,?_⟩
 .refine((hN.but.mono (λ_ _ h=>h.elim)).trans (hB.mono (λk hk hf=>⟨hf.1,λhp=>hf.2 (Or.inl hp)⟩))).next (dH _ _ _ _) (λk hk e=>by have e:k=r:=e;omega)
 .refine(hs.tmp (F:=(· =r)) (dH _ _ _ _) (λk e=>by have e:k=r:=e;subst e;exact⟨Or.inr ⟨hr,d⟩,by omega⟩) (λk e c fz he=> ?_)).less (λk hp=>Or.inl hp);have e:k=r:=e;subst e;rw[f.put]at he
  cases he
theorem WdQ.fin0 {X X':World} {r:Nat} (h:WdQ P w0 w bw tx inp s vo vb gs fv cn sn) (hN:NB w X) (hB:B_ X X') (hr:w.heap.size<=r) (hx:dE X r) (a b:Int):
  dE X' r/\But (FrQ P w0) w ((X'.setCell ⟨r,0,none⟩ (.int .i32 a)).setCell ⟨r,1,none⟩ (.int .i64 b))/\WdQ P w0 ((X'.setCell ⟨r,0,none⟩ (.int .i32 a)).setCell ⟨r,1,none⟩ (.int .i64 b)) bw tx inp s vo vb gs fv cn sn:=
 WdQ.fin hN h.old.size ((h.grown hN).new hB) (hB.mono (λ_ _ h=>h.elim)) hr hx a b
theorem Ea (h:WdQ P w0 w bw tx inp s vo vb gs fv cn sn) (u v:V) (pl n pn pc:Nat) (c:UInt8) (pa:Option Addr) (hn:n<100):
  Calls prog 197 #[.pointer (some ⟨bw,0,none⟩),.agg #[.int .i64 pl,.int .u8 107,.int .u8 c.toNat,.int .i64 n,.slice pa pn pc],aI u,aI v] w (ReW P w0 w bw tx inp cn (.ok (.i n) l s)):=by
 unfold aI
 go_in
 go_wp2_with fail;exact dI results197 rfl rfl rfl (aw (by simp) _) ⟨fH.but.mono (λ_ _ h=>h.elim),vo,vb,gs,fv,sn,rfl,h.new fH.but⟩
theorem Eb (h:WdQ P w0 w bw tx inp s vo vb gs fv cn sn) (u v:V) (pl n pn pc:Nat) (c:UInt8) (pa:Option Addr):
  Calls prog 197 #[.pointer (some ⟨bw,0,none⟩),.agg #[.int .i64 pl,.int .u8 122,.int .u8 c.toNat,.int .i64 n,.slice pa pn pc],aI u,aI v] w (ReW P w0 w bw tx inp cn (.ok .z l s)):=by
 unfold aI
 go_in
 go_wp2_with fail;exact dI results197 rfl rfl rfl (aw (by simp) _) ⟨fH.but.mono (λ_ _ h=>h.elim),vo,vb,gs,fv,sn,rfl,h.new fH.but⟩
theorem Ec (h:WdQ P w0 w bw tx inp s vo vb gs fv cn sn) (h40:inp.size<=40) (u v:V) (pl n pn pc:Nat) (c:UInt8) (pa:Option Addr):
  Calls prog 197 #[.pointer (some ⟨bw,0,none⟩),.agg #[.int .i64 pl,.int .u8 114,.int .u8 c.toNat,.int .i64 n,.slice pa pn pc],aI u,aI v] w (ReW P w0 w bw tx inp cn (.ok (.i (jA inp s.read)) l {s with read:=s.read+1})):=by
 have j:=hid (λX (hX:NB w X)=>rI (h.grown hX) h40);have k:=h.old.size;clear h;unfold aI
 go_in
 go_wp2_with fail;refine(j.out _ fH).mono ?_;rintro en w1 ⟨d,rfl,f⟩;have g:=hid (λa b=>WdQ.fin fH k f d (r:=w.heap.size+1+1+1) (by omega) ⟨0,0,aw (by simp) _⟩ a b);have e:=(g.out 0 0).1;obtain⟨p,q,r0,y,t,x,m⟩:=e.parts;simp only[aI];clear j d f;go_wp2_with fail;exact dI results197 rfl rfl rfl (e.put _ _) ⟨(g.out _ _).2.1,_,_,_,_,_,rfl,(g.out _ _).2.2⟩
theorem Ed (h:WdQ P w0 w bw tx inp s vo vb gs fv cn sn) (ht:fd w0) (m:Int) (h1: -2147483648<=m) (h2:m<2147483648) (hol:s.out.length<=90000) (v:V) (pl n pn pc:Nat) (c:UInt8) (pa:Option Addr):
  Calls prog 197 #[.pointer (some ⟨bw,0,none⟩),.agg #[.int .i64 pl,.int .u8 119,.int .u8 c.toNat,.int .i64 n,.slice pa pn pc],aI (.i m),aI v] w (ReW P w0 w bw tx inp cn (.ok (.i 0) l (s.say m))):=by
 have j:=hid (λX (hX:NB w X)=>vQ (h.grown hX) ht m h1 h2 hol);have k:=h.old.size;clear h;unfold aI
 go_in
 go_wp2_with fail;refine(j.out _ fH).mono ?_;rintro en w1 ⟨d,rfl,q,f⟩;have g:=hid (λa b=>WdQ.fin fH k f d (r:=w.heap.size+1+1+1) (by omega) ⟨0,0,aw (by simp) _⟩ a b);have e:=(g.out 0 0).1;obtain⟨t,x,r0,A,y,z,p⟩:=e.parts;simp only[aI];clear j d f;go_wp2_with fail;exact dI results197 rfl rfl rfl (e.put _ _) ⟨(g.out _ _).2.1,_,_,_,_,_,rfl,(g.out _ _).2.2⟩
theorem Ee (h:WdQ P w0 w bw tx inp s vo vb gs fv cn sn) (u v:V) (huv:xO u=xO v↔u=v) (pl n pn pc:Nat) (c:UInt8) (pa:Option Addr):
  Calls prog 197 #[.pointer (some ⟨bw,0,none⟩),.agg #[.int .i64 pl,.int .u8 101,.int .u8 c.toNat,.int .i64 n,.slice pa pn pc],aI u,aI v] w (ReW P w0 w bw tx inp cn (.ok (if u=v then .i 1 else .i 0) l s)):=by
 by_cases hq:xO u=xO v
 .rw[if_pos (huv.1 hq)];have j:=hid (λX (hX:NB w X)=>kV true X);have k:=hid h;clear huv;clear h;unfold aI;rw[hq]
  go_in
  go_wp2_with fail;refine(j.out _ fH).mono ?_;rintro en w1 ⟨rfl,d⟩;have g:=hid (λa b=>k.out.fin0 fH d (r:=w.heap.size+1+1+1) (by omega) ⟨0,0,aw (by simp) _⟩ a b);have f:=(g.out 0 0).1;obtain⟨p,q,r0,z,t,x,m⟩:=f.parts;simp only[aI];clear j d;go_wp2_with fail;exact dI results197 rfl rfl rfl (f.put _ _) ⟨(g.out _ _).2.1,_,_,_,_,_,rfl,(g.out _ _).2.2⟩
 .rw[if_neg (λe=>hq (huv.2 e))];have y:(xO u==xO v)=false:=by simpa using hq
  have j:=hid (λX (hX:NB w X)=>kV false X);have k:=hid h;clear huv;clear h;unfold aI
  go_in
  go_wp2_with fail;refine(j.out _ fH).mono ?_;rintro en w1 ⟨rfl,d⟩;have g:=hid (λa b=>k.out.fin0 fH d (r:=w.heap.size+1+1+1) (by omega) ⟨0,0,aw (by simp) _⟩ a b);have f:=(g.out 0 0).1;obtain⟨p,q,r0,z,t,x,m⟩:=f.parts;simp only[aI];clear j d;go_wp2_with fail;exact dI results197 rfl rfl rfl (f.put _ _) ⟨(g.out _ _).2.1,_,_,_,_,_,rfl,(g.out _ _).2.2⟩
theorem Ef (h:WdQ P w0 w bw tx inp s vo vb gs fv cn sn) (h4:s.heap.length<=4000) (cs:List bP) (hn:cs.length<=100) (hT:TxC w0 tx cs) (o:Ob) (ts:L_) (u v:V) (pl n pn pc:Nat) (c:UInt8) (pa:Option Addr) (hc:c.toNat=65+o.cls) (hts:bV cs c=ts) (ht5:ts.length<=100) (hof:o.fs=ts.map du):
  Calls prog 197 #[.pointer (some ⟨bw,0,none⟩),.agg #[.int .i64 pl,.int .u8 110,.int .u8 c.toNat,.int .i64 n,.slice pa pn pc],aI u,aI v] w (ReW P w0 w bw tx inp cn (.ok (.o s.heap.length) l {s with heap:=s.heap++ [o]})):=by
 have i:=hid (λX (hX:NB w X)=>qT (h.grown hX) h4 cs hn hT c o hc ts hts ht5 hof);have m:=h.old.size;clear h hc hts hof;unfold aI
 go_in
 go_wp2_with fail;refine(i.out _ fH).mono ?_;rintro en w1 ⟨d,rfl,t,k,j,q,f⟩;have g:=hid (λa b=>WdQ.fin fH m f d (r:=w.heap.size+1+1+1) (by omega) ⟨0,0,aw (by simp) _⟩ a b);have e:=(g.out 0 0).1;obtain⟨x,y,r0,B,z,A,p⟩:=e.parts;simp only[aI];clear i d f;go_wp2_with fail;exact dI results197 rfl rfl rfl (e.put _ _) ⟨(g.out _ _).2.1,_,_,_,_,_,rfl,(g.out _ _).2.2⟩
theorem Cn (h:WdQ P w0 w bw tx inp s vo vb gs fv cn sn) (h4:s.heap.length<=4000) (v:V) (pl n pn pc:Nat) (c:UInt8) (pa:Option Addr):
  Calls prog 197 #[.pointer (some ⟨bw,0,none⟩),.agg #[.int .i64 pl,.int .u8 103,.int .u8 c.toNat,.int .i64 n,.slice pa pn pc],aI .z,aI v] w (ReW P w0 w bw tx inp cn (.bad 6 s.out)):=by
 have g:=hid (λX (hX:NB w X)=>Cl (h.grown hX) h4 n);have i:=hid h;clear h;unfold aI
 go_in
 go_wp2_with fail;refine(g.out _ fH).mono ?_;rintro en w1 ⟨d,rfl⟩;have f:=hid (λa b=>i.out.fin0 fH d (r:=w.heap.size+1+1+1) (by omega) ⟨0,0,aw (by simp) _⟩ a b);have e:=(f.out 0 0).1;obtain⟨k,l,r0,q,m,p,j⟩:=e.parts;simp only[aI];clear g d;go_wp2_with fail;exact dI results197 rfl rfl rfl (e.put _ _) ⟨(f.out _ _).2.1,_,_,_,_,_,rfl,s,rfl,(f.out _ _).2.2⟩
theorem Co (h:WdQ P w0 w bw tx inp s vo vb gs fv cn sn) (h4:s.heap.length<=4000) {k:Nat} {o:Ob} (hk:s.heap[k]?=some o) (q:V) (v:V) (pl n pn pc:Nat) (c:UInt8) (pa:Option Addr) (hq:o.fs[n]?=some q):
  Calls prog 197 #[.pointer (some ⟨bw,0,none⟩),.agg #[.int .i64 pl,.int .u8 103,.int .u8 c.toNat,.int .i64 n,.slice pa pn pc],aI (.o k),aI v] w (ReW P w0 w bw tx inp cn (.ok q l s)):=by
 have g:=hid (λX (hX:NB w X)=>Cm (h.grown hX) h4 hk n q hq);have i:=hid h;clear hk hq;clear h;unfold aI
 go_in
 go_wp2_with fail;refine(g.out _ fH).mono ?_;rintro en w1 ⟨d,rfl⟩;have f:=hid (λa b=>i.out.fin0 fH d (r:=w.heap.size+1+1+1) (by omega) ⟨0,0,aw (by simp) _⟩ a b);have e:=(f.out 0 0).1;obtain⟨m,p,r0,y,t,x,j⟩:=e.parts;simp only[aI];clear g d;go_wp2_with fail;exact dI results197 rfl rfl rfl (e.put _ _) ⟨(f.out _ _).2.1,_,_,_,_,_,rfl,(f.out _ _).2.2⟩
theorem Cp (h:WdQ P w0 w bw tx inp s vo vb gs fv cn sn) (h4:s.heap.length<=4000) (v:V) (pl n pn pc:Nat) (c:UInt8) (pa:Option Addr):
  Calls prog 197 #[.pointer (some ⟨bw,0,none⟩),.agg #[.int .i64 pl,.int .u8 112,.int .u8 c.toNat,.int .i64 n,.slice pa pn pc],aI .z,aI v] w (ReW P w0 w bw tx inp cn (.bad 6 s.out)):=by
 have g:=hid (λX (hX:NB w X)=>vO (h.grown hX) h4 n v);have i:=hid h;clear h;unfold aI
 go_in
 go_wp2_with fail;refine(g.out _ fH).mono ?_;rintro en w1 ⟨d,rfl⟩;have f:=hid (λa b=>i.out.fin0 fH d (r:=w.heap.size+1+1+1) (by omega) ⟨0,0,aw (by simp) _⟩ a b);have e:=(f.out 0 0).1;obtain⟨k,l,r0,q,m,p,j⟩:=e.parts;simp only[aI];clear g d;go_wp2_with fail;exact dI results197 rfl rfl rfl (e.put _ _) ⟨(f.out _ _).2.1,_,_,_,_,_,rfl,s,rfl,(f.out _ _).2.2⟩
theorem Cq (h:WdQ P w0 w bw tx inp s vo vb gs fv cn sn) (h4:s.heap.length<=4000) {k:Nat} {o:Ob} (hk:s.heap[k]?=some o) (v:V) (pl n pn pc:Nat) (c:UInt8) (pa:Option Addr) (hq:n<o.fs.length):
  Calls prog 197 #[.pointer (some ⟨bw,0,none⟩),.agg #[.int .i64 pl,.int .u8 112,.int .u8 c.toNat,.int .i64 n,.slice pa pn pc],aI (.o k),aI v] w (ReW P w0 w bw tx inp cn (.ok (.i 0) l (s.put k n v))):=by
 have j:=hid (λX (hX:NB w X)=>vP (h.grown hX) h4 hk n v hq);have m:=h.old.size;clear h hk hq;unfold aI
 go_in
 go_wp2_with fail;refine(j.out _ fH).mono ?_;rintro en w1 ⟨d,rfl,f⟩;have g:=hid (λa b=>WdQ.fin fH m f d (r:=w.heap.size+1+1+1) (by omega) ⟨0,0,aw (by simp) _⟩ a b);have e:=(g.out 0 0).1;obtain⟨q,t,r0,z,x,y,p⟩:=e.parts;simp only[aI];clear j d f;go_wp2_with fail;exact dI results197 rfl rfl rfl (e.put _ _) ⟨(g.out _ _).2.1,_,_,_,_,_,rfl,(g.out _ _).2.2⟩
theorem Cr (h:WdQ P w0 w bw tx inp s vo vb gs fv cn sn) (h4:s.heap.length<=4000) (v:V) (pl n pn pc:Nat) (c:UInt8) (pa:Option Addr):
  Calls prog 197 #[.pointer (some ⟨bw,0,none⟩),.agg #[.int .i64 pl,.int .u8 120,.int .u8 c.toNat,.int .i64 n,.slice pa pn pc],aI .z,aI v] w (ReW P w0 w bw tx inp cn (.ok .z l s)):=by
 have g:=hid (λX (hX:NB w X)=>DJ (h.grown hX) h4 c);have i:=hid h;clear h;unfold aI
 go_in
 go_wp2_with fail;refine(g.out _ fH).mono ?_;rintro en w1 ⟨d,rfl⟩;have f:=hid (λa b=>i.out.fin0 fH d (r:=w.heap.size+1+1+1) (by omega) ⟨0,0,aw (by simp) _⟩ a b);have e:=(f.out 0 0).1;obtain⟨k,m,r0,t,p,q,j⟩:=e.parts;simp only[aI];clear g d;go_wp2_with fail;exact dI results197 rfl rfl rfl (e.put _ _) ⟨(f.out _ _).2.1,_,_,_,_,_,rfl,(f.out _ _).2.2⟩
theorem Cs (h:WdQ P w0 w bw tx inp s vo vb gs fv cn sn) (h4:s.heap.length<=4000) {k:Nat} {o:Ob} (hk:s.heap[k]?=some o) (cs:List bP) (hn:cs.length<=100) (hT:TxC w0 tx cs) (a:UInt8) (ha:a.toNat=65+o.cls) (v:V) (pl n pn pc:Nat) (c:UInt8) (pa:Option Addr):
  Calls prog 197 #[.pointer (some ⟨bw,0,none⟩),.agg #[.int .i64 pl,.int .u8 120,.int .u8 c.toNat,.int .i64 n,.slice pa pn pc],aI (.o k),aI v] w (ReW P w0 w bw tx inp cn (if dT cs c cs.length a=true then .ok (.o k) l s else .bad 8 s.out)):=by
 have f:=hid (λX (hX:NB w X)=>DK (h.grown hX) h4 hk cs hn hT a c ha);have j:=hid h;obtain⟨r,m⟩: ∃r,dT cs c cs.length a=r:=⟨_,rfl⟩;rw[m]at f⊢;clear h m ha hk
 cases r
 .simp only[dx,if_false]at f⊢;unfold aI
  go_in
  go_wp2_with fail;refine(f.out _ fH).mono ?_;rintro en w1 ⟨d,rfl⟩;have g:=hid (λa b=>j.out.fin0 fH d (r:=w.heap.size+1+1+1) (by omega) ⟨0,0,aw (by simp) _⟩ a b);have e:=(g.out 0 0).1;obtain⟨p,q,r0,y,t,x,i⟩:=e.parts;simp only[aI];clear f d;go_wp2_with fail;exact dI results197 rfl rfl rfl (e.put _ _) ⟨(g.out _ _).2.1,_,_,_,_,_,rfl,s,rfl,(g.out _ _).2.2⟩
 .simp only[if_true]at f⊢;unfold aI
  go_in
  go_wp2_with fail;refine(f.out _ fH).mono ?_;rintro en w1 ⟨d,rfl⟩;have g:=hid (λa b=>j.out.fin0 fH d (r:=w.heap.size+1+1+1) (by omega) ⟨0,0,aw (by simp) _⟩ a b);have e:=(g.out 0 0).1;obtain⟨p,q,r0,y,t,x,i⟩:=e.parts;simp only[aI];clear f d;go_wp2_with fail;exact dI results197 rfl rfl rfl (e.put _ _) ⟨(g.out _ _).2.1,_,_,_,_,_,rfl,(g.out _ _).2.2⟩
theorem Eg (h:WdQ P w0 w bw tx inp s vo vb gs fv cn sn) (op:Nat) (hop:op=43\/op=45\/op=42\/op=60\/op=61\/op=47) (a b:Int) (a1: -2147483648<=a) (a2:a<2147483648) (b1: -2147483648<=b) (b2:b<2147483648) (pl n pn pc:Nat) (c:UInt8) (pa:Option Addr):
  Calls prog 197 #[.pointer (some ⟨bw,0,none⟩),.agg #[.int .i64 pl,.int .u8 op,.int .u8 c.toNat,.int .i64 n,.slice pa pn pc],aI (.i a),aI (.i b)] w (ReW P w0 w bw tx inp cn (dO op a b l s)):=by
 have k:=hid (λX=>AH op hop a b a1 a2 b1 b2 X);have t:=hid h
 obtain⟨K,e,q,p⟩: ∃(K e:Int),mI op a b= .tuple #[.agg #[.int .i32 K,.int .i64 0],.int .i64 e]/\((∃m,m=K/\e=0/\dO op a b l s= .ok (.i m) l s)\/(K=0/\e=cr 7/\dO op a b l s= .bad 7 s.out)):=by
  unfold mI dO
  by_cases h47:op=47
  .by_cases hb:b=0
   .subst h47 hb;exact⟨0,3,rfl,Or.inr ⟨rfl,rfl,rfl⟩⟩
   .simp only[h47,hb,and_false,if_true,if_false];exact⟨_,0,rfl,Or.inl ⟨_,rfl,rfl,rfl⟩⟩
  .simp only[h47,false_and,if_false];exact⟨_,0,rfl,Or.inl ⟨_,rfl,rfl,rfl⟩⟩
 rw[q]at k;obtain⟨R,j⟩: ∃R,dO op a b l s=R:=⟨_,rfl⟩;rw[j]at p⊢;have v:=hid p;clear h q p j;obtain rfl|rfl|rfl|rfl|rfl|rfl:=hop
 all_goals
  unfold aI
  go_in
  go_wp2_with fail;refine(k.out _).mono ?_;rintro en w1 ⟨rfl,g⟩;have f:=hid (λa b=>t.out.fin0 fH g (r:=w.heap.size+1+1+1) (by omega) ⟨0,0,aw (by simp) _⟩ a b);have d:=(f.out 0 0).1;obtain⟨y,z,r0,C,A,B,x⟩:=d.parts;simp only[aI];clear k g;go_wp2_with fail;obtain⟨m,rfl,rfl,rfl⟩ | ⟨rfl,rfl,rfl⟩:=v.out
  .exact dI results197 rfl rfl rfl (d.put _ _) ⟨(f.out _ _).2.1,_,_,_,_,_,rfl,(f.out _ _).2.2⟩
  .exact dI results197 rfl rfl rfl (d.put _ _) ⟨(f.out _ _).2.1,_,_,_,_,_,rfl,s,rfl,(f.out _ _).2.2⟩
theorem sB (h:WdQ P w0 w bw tx inp s vo vb gs fv cn sn) (h4:s.heap.length<=4000) (m d:Nat):
  Calls prog 193 #[.pointer (some ⟨bw,0,none⟩),.agg #[.int .i32 0,.int .i64 0],.int .i64 m,.int .i64 d] w λen w'=>B_ w w'/\en= .returned (.tuple #[.int .i64 (-1),.int .i64 2]):=by
 have b:=hid (λX (hX:B_ w X)=>Cj (h.new hX) h4);clear h
 go_in
 go_wp2_with fail;refine(b.out _ (ag _ _ _)).mono ?_;rintro en w1 ⟨a,rfl⟩;go_wp2_with fail;exact gI results193 rfl rfl rfl ⟨(ag _ _ _).trans a,rfl⟩
theorem sC (h:WdQ P w0 w bw tx inp s vo vb gs fv cn sn) (h4:s.heap.length<=4000) {k:Nat} {o:Ob} (hk:s.heap[k]?=some o) (cs:List bP) (bs:List bK) (hn:cs.length<=100) (hnb:bs.length<=100) (hT:TxC w0 tx cs) (hTb:TxB w0 tx bs) (a:UInt8) (ha:a.toNat=65+o.cls) (m d:Nat):
  Calls prog 193 #[.pointer (some ⟨bw,0,none⟩),.agg #[.int .i32 0,.int .i64 ((k:Int)+1)],.int .i64 m,.int .i64 d] w λen w'=>B_ w w'/\en= .returned (if 12<=d then .tuple #[.int .i64 (-1),.int .i64 6]else .tuple #[.int .i64 (gM cs bs m cs.length a),.int .i64 0]):=by
 have f:=hid (λX (hX:B_ w X)=>Ck (h.new hX) h4 hk);rw[<-ha]at f;have j:=hid (λX (hX:B_ w X)=>pd tx cs bs a m X hn hnb (hT.but (h.old.trans hX)) (hTb.but (h.old.trans hX)));have c0:=h.wd.c0;have e:=h.wd.lt;have n:(a.toNat:Int)≠45:=by omega
 obtain⟨r,l⟩: ∃r,gM cs bs m cs.length a=r:=⟨_,rfl⟩;rw[l]at j⊢;clear h hk ha l
 by_cases hd:12<=d
 .rw[if_pos hd];have i:12<=(d:Int):=by omega
  go_in
  go_wp2_with fail;refine(f.out _ (ag _ _ _)).mono ?_;rintro en w1 ⟨b,rfl⟩;go_wp2_with fail;exact gI results193 rfl rfl rfl ⟨(ag _ _ _).trans b,rfl⟩
 .rw[if_neg hd];have i: ¬12<=(d:Int):=by omega
  clear hd
  go_in
  go_wp2_with fail;refine(f.out _ (ag _ _ _)).mono ?_;rintro en w1 ⟨b,rfl⟩;have c:B_ w w1:=(ag _ _ _).trans b;have d0:=c.kc c0 e;have p:=aP e c.size;clear f b c0;go_wp2_with fail;refine(j.out _ c).mono ?_;rintro en w2 ⟨rfl,g⟩;go_wp2_with fail;exact gI results193 rfl rfl rfl ⟨c.trans g,rfl⟩
end
theorem AJ (tx:Nat) (inp:ByteArray) (w:World):
  Calls prog 86 #[.pointer (some ⟨tx,0,none⟩),.string inp] w λen w'=>en= .returned (.pointer (some ⟨w.heap.size,0,none⟩))/\w'=w.alloc (.cells #[.pointer (some ⟨tx,0,none⟩),.string inp,.int .i64 0,S_,S_,.int .i64 0] 211):=by
 go_in
 go_wp2_with fail;go_ret;exact⟨rfl,rfl⟩
theorem vR {w:World} {bw tx base:Nat} {inp:ByteArray} {r:Int} {vo vb:Value} {cn:Int} {o:L_} (h:XwC w bw tx inp r vo vb cn) (ho:w.ownsRow base 5 1 vo o.length (Lib.byteCells o)):
  Calls prog 89 #[.pointer (some ⟨bw,0,none⟩)] w λen w'=>en= .returned (.string ⟨o.toArray⟩)/\w'=w:=by
 have c3:=h.c3;have hl:=h.lt;have a:=iF (l:=o) ho;obtain⟨ao,cap,rfl⟩:=aA ho;clear h ho
 go_in
 go_wp2_with fail;go_ret;exact⟨rfl,rfl⟩
theorem tZ (e:Nat) (he:e=0\/(5<=e/\e<=10)) (w:World):
  Calls prog 59 #[.int .i64 (cr e)] w λen w'=>en= .returned (.int .i64 e)/\w'=w:=by
 have:e=0\/e=5\/e=6\/e=7\/e=8\/e=9\/e=10:=by omega
 obtain rfl|rfl|rfl|rfl|rfl|rfl|rfl:=this
 .rw[show cr _=0 from rfl]
  go_in
  go_wp2_with fail;go_ret;exact⟨rfl,rfl⟩
 .rw[show cr _=1 from rfl]
  go_in
  go_wp2_with fail;go_ret;exact⟨rfl,rfl⟩
 .rw[show cr _=2 from rfl]
  go_in
  go_wp2_with fail;go_ret;exact⟨rfl,rfl⟩
 .rw[show cr _=3 from rfl]
  go_in
  go_wp2_with fail;go_ret;exact⟨rfl,rfl⟩
 .rw[show cr _=4 from rfl]
  go_in
  go_wp2_with fail;go_ret;exact⟨rfl,rfl⟩
 .rw[show cr _=5 from rfl]
  go_in
  go_wp2_with fail;go_ret;exact⟨rfl,rfl⟩
 .rw[show cr _=6 from rfl]
  go_in
  go_wp2_with fail;go_ret;exact⟨rfl,rfl⟩
end
end Go.Proofs.YtpfkkmacakjmbaaGreatDoor
