import Derived.Test.YtpfkkmacakjmbaaGreatDoorP30
set_option maxRecDepth 100000
set_option maxHeartbeats 6400000
set_option linter.unusedSimpArgs false
set_option linter.unusedVariables false
namespace Go.Proofs.YtpfkkmacakjmbaaGreatDoor
section
open Go Go.RowKit Sp
attribute [local go_sem ↓] Go.wp_at_zero Go.wp_at_succ
section
variable {P:Nat→Prop} {w0 w w':World} {bw tx:Nat} {inp:ByteArray} {s:Ev} {vo vb:Value} {gs:List Nat} {fv:List Value} {cn:Int} {sn:Nat→Int} {l:List V}
/--The object that a reference names. -/
theorem g9 (h:WdQ P w0 w bw tx inp s vo vb gs fv cn sn) (u:V) (hu:(∃n,u= .i n)∨u= .z∨ ∃k,u= .o k∧k<s.heap.length) (h4:s.heap.length≤4000):
  Calls Tryz.prog 245 #[.pointer (some ⟨bw,0,none⟩),aG u] w fun en w'=>But (fun _=>False) w w'∧en= .returned (.pointer (match u with| .o k=>(gs[k]?).map (fun g=>⟨g,0,none⟩) |_=>none)):=by
 unfold aG;have a1:=h.wd.lt
 have hz: ∀(hx:xO u=0) (hm: ∀k,u≠ .o k),Calls Tryz.prog 245 #[.pointer (some ⟨bw,0,none⟩),.agg #[.int .i32 (xN u),.int .i64 (xO u)]] w fun en w'=>But (fun _=>False) w w'∧en= .returned (.pointer none):=fun hx hm=>by
  rw[hx];clear hx hm hu h
  go_in
  go_wp2_with fail
  go_quiet (fail)
  go_wp2_with fail;go_ret;exact⟨(But.alloc _ _ _).trans (But.drewN _ _ _),rfl⟩
 rcases hu with⟨n,rfl⟩ |rfl| ⟨k,rfl,hk⟩
 ·exact hz rfl (fun k h=>by cases h)
 ·exact hz rfl (fun k h=>by cases h)
 ·clear hz;obtain⟨o,g,v,h1,h2,h3,a6,h5⟩:=h.obj hk;simp only[h2,Option.map_some,xN,xO];have c4:=h.wd.c4;obtain⟨ab,capb,rfl⟩:=aw h.ob;obtain⟨gb,rfl,a2,a7,a0⟩:=aI h.ob (by omega);have q0:w.cell? ⟨gb,k,none⟩=some (.pointer (some ⟨g,0,none⟩)):=a0 _ _ (by simp[ej,h2]);have a3: ¬((k:Int)+1≤0):=by omega
  have a4: ¬((s.heap.length:Int)<(k:Int)+1):=by omega
  have a8:(k:Int)<(s.heap.length:Int):=by omega
  clear a0 h1 h2 h3 h5;generalize s.heap.length=nh at*;have d1:decide ((k:Int)+1≤0)=false:=decide_eq_false a3;have d2:decide ((nh:Int)<(k:Int)+1)=false:=decide_eq_false a4;have e4: ∀ob,(w.alloc ob).cell? ⟨bw,4,none⟩=some (.slice (some ⟨gb,0,none⟩) nh capb):=fun ob=>((But.alloc (fun _=>False) w ob).cell (p:=⟨bw,4,none⟩) a1 (fun h=>h)).trans c4
  go_in
  go_wp2_with fail
  go_quiet (fail)
  go_wp2_with fail;have e5: ∀ob,(w.alloc ob).cell? ⟨gb,k,none⟩=some (.pointer (some ⟨g,0,none⟩)):=fun ob=>((But.alloc (fun _=>False) w ob).cell (p:=⟨gb,k,none⟩) a2 (fun h=>h)).trans q0
  have a9:=dF (k:Int) (by omega) (by omega);have a5:=dF ((k:Int)+1-1) (by omega) (by omega)
  go_quiet (fail)
  go_wp2_with fail;go_ret;exact⟨((But.alloc _ _ _).trans (But.drewN _ _ _)).trans (But.drewN _ _ _),rfl⟩
theorem gP (h:WdQ P w0 w bw tx inp s vo vb gs fv cn sn) (h4:s.heap.length≤4000):
  Calls Tryz.prog 245 #[.pointer (some ⟨bw,0,none⟩),.agg #[.int .i32 0,.int .i64 0]] w fun en w'=>But (fun _=>False) w w'∧en= .returned (.pointer none):=g9 h .z (Or.inr (Or.inl rfl)) h4
theorem gQ (h:WdQ P w0 w bw tx inp s vo vb gs fv cn sn) (h4:s.heap.length≤4000) {k g:Nat} (hk:k<s.heap.length) (hg:gs[k]?=some g):
  Calls Tryz.prog 245 #[.pointer (some ⟨bw,0,none⟩),.agg #[.int .i32 0,.int .i64 ((k:Int)+1)]] w fun en w'=>But (fun _=>False) w w'∧en= .returned (.pointer (some ⟨g,0,none⟩)):=by
 have:=g9 h (.o k) (Or.inr (Or.inr ⟨k,rfl,hk⟩)) h4;simp only[hg,Option.map_some]at this;exact this
theorem yB (h:WdQ P w0 w bw tx inp s vo vb gs fv cn sn) (h4:s.heap.length≤4000):
  Calls Tryz.prog 228 #[.pointer (some ⟨bw,0,none⟩),.agg #[.int .i32 0,.int .i64 0]] w fun en w'=>But (fun _=>False) w w'∧en= .returned (.int .u8 45):=by
 have HO:=hid (fun X (hX:But (fun _=>False) w X)=>gP (h.new hX) h4);clear h
 go_in
 go_wp2_with fail;refine(HO.out _ (But.alloc _ _ _)).mono ?_;rintro en w1 ⟨a0,rfl⟩;go_wp2_with fail;go_ret;exact⟨(But.alloc _ _ _).trans a0,rfl⟩
theorem yC (h:WdQ P w0 w bw tx inp s vo vb gs fv cn sn) (h4:s.heap.length≤4000) {k:Nat} {o:Ob} (hk:s.heap[k]?=some o):
  Calls Tryz.prog 228 #[.pointer (some ⟨bw,0,none⟩),.agg #[.int .i32 0,.int .i64 ((k:Int)+1)]] w fun en w'=>But (fun _=>False) w w'∧en= .returned (.int .u8 (65+o.cls:Nat)):=by
 have a3:=(List.getElem?_eq_some_iff.1 hk).1;obtain⟨o',g,v,h1,h2,h3,a0,h5⟩:=h.obj a3;rw[hk]at h1
 cases h1
 have HO:=hid (fun X (hX:But (fun _=>False) w X)=>gQ (h.new hX) h4 a3 h2);have a4:=ae a0;clear h hk h2 h3 h5
 go_in
 go_wp2_with fail;refine(HO.out _ (But.alloc _ _ _)).mono ?_;rintro en w1 ⟨a1,rfl⟩;have a2:But (fun _=>False) w w1:=(But.alloc _ _ _).trans a1;have hx:=(a2.block g a4 (fun h=>h)).trans a0;have x0:=ce0 hx;clear HO a1 a0;go_wp2_with fail;go_ret;exact⟨a2,rfl⟩
theorem yD (h:WdQ P w0 w bw tx inp s vo vb gs fv cn sn) (h4:s.heap.length≤4000) (j:Nat):
  Calls Tryz.prog 237 #[.pointer (some ⟨bw,0,none⟩),.agg #[.int .i32 0,.int .i64 0],.int .i64 j] w fun en w'=>But (fun _=>False) w w'∧en= .returned (.tuple #[.agg #[.int .i32 0,.int .i64 0],.int .i64 2]):=by
 have HO:=hid (fun X (hX:But (fun _=>False) w X)=>gP (h.new hX) h4);clear h
 go_in
 go_wp2_with fail;refine(HO.out _ ((But.alloc _ _ _).trans (But.alloc _ _ _))).mono ?_;rintro en w1 ⟨a0,rfl⟩;have a1:cQ w1 (w.heap.size+1):=cQ.but ⟨0,0,aq (by simp) _⟩ a0 (fun h=>h);have a2:But (fun _=>False) w w1:=((But.alloc _ _ _).trans (But.alloc _ _ _)).trans a0;obtain⟨K9,N9,r0,r1,f0,f1,a3⟩:=a1.parts;clear a0 HO;go_wp2_with fail;exact cV Tryz.results237 rfl rfl rfl (a1.put _ _) ⟨a2.next (cU _ _ _ _) (fun k hk e=>by have e:k=w.heap.size+1:=e;omega),rfl⟩
theorem yE (h:WdQ P w0 w bw tx inp s vo vb gs fv cn sn) (h4:s.heap.length≤4000) {k:Nat} {o:Ob} (hk:s.heap[k]?=some o) (j:Nat) (u:V) (hu:o.fs[j]?=some u):
  Calls Tryz.prog 237 #[.pointer (some ⟨bw,0,none⟩),.agg #[.int .i32 0,.int .i64 ((k:Int)+1)],.int .i64 j] w fun en w'=>But (fun _=>False) w w'∧en= .returned (.tuple #[aG u,.int .i64 0]):=by
 have a5:=(List.getElem?_eq_some_iff.1 hk).1;have b2:=(List.getElem?_eq_some_iff.1 hu).1;obtain⟨o',g,v,h1,h2,h3,a2,h5⟩:=h.obj a5;rw[hk]at h1
 cases h1
 have HO:=hid (fun X (hX:But (fun _=>False) w X)=>gQ (h.new hX) h4 a5 h2);have a8:=ae a2;obtain⟨af,cf,rfl⟩:=aw h5;obtain⟨gf,rfl,a4,a7,a0⟩:=aI h5 (by omega);have q0:w.cell? ⟨gf,j*2,none⟩=some (.int .i32 (xN u)):=a0 _ _ (bp (k:=0) hu (by omega));have q1:w.cell? ⟨gf,j*2+1,none⟩=some (.int .i64 (xO u)):=a0 _ _ (bp (k:=1) hu (by omega));have a9: ¬((j:Int)<0):=by omega
 have b0: ¬((o.fs.length:Int)≤(j:Int)):=by omega
 have b1:(j:Int)<(o.fs.length:Int):=by omega
 clear h hk h2 h3 h5 hu a0;unfold aG;generalize o.fs.length=nf at*
 go_in
 go_wp2_with fail;refine(HO.out _ ((But.alloc _ _ _).trans (But.alloc _ _ _))).mono ?_;rintro en w1 ⟨a3,rfl⟩;have a6:cQ w1 (w.heap.size+1):=cQ.but ⟨0,0,aq (by simp) _⟩ a3 (fun h=>h);have a1:But (fun _=>False) w w1:=((But.alloc _ _ _).trans (But.alloc _ _ _)).trans a3;have hx:=(a1.block g a8 (fun h=>h)).trans a2;have x1:=ce1 hx;have p0:=a1.kc q0 a4;have p1:=a1.kc q1 a4;obtain⟨K9,N9,r0,r1,f0,f1,b3⟩:=a6.parts;clear a3 HO q0 q1 a2 hx;go_wp2_with fail;exact cV Tryz.results237 rfl rfl rfl (a6.put _ _) ⟨a1.next (cU _ _ _ _) (fun k hk e=>by have e:k=w.heap.size+1:=e;omega),rfl⟩
theorem sA (h:WdQ P w0 w bw tx inp s vo vb gs fv cn sn) (h4:s.heap.length≤4000) (j:Nat) (u:V):
  Calls Tryz.prog 238 #[.pointer (some ⟨bw,0,none⟩),.agg #[.int .i32 0,.int .i64 0],.int .i64 j,aG u] w fun en w'=>But (fun _=>False) w w'∧en= .returned (.int .i64 2):=by
 have HO:=hid (fun X (hX:But (fun _=>False) w X)=>gP (h.new hX) h4);clear h;unfold aG
 go_in
 go_wp2_with fail;refine(HO.out _ ((But.alloc _ _ _).trans (But.alloc _ _ _))).mono ?_;rintro en w1 ⟨a0,rfl⟩;go_wp2_with fail;go_ret;exact⟨((But.alloc _ _ _).trans (But.alloc _ _ _)).trans a0,rfl⟩
theorem sB (h:WdQ P w0 w bw tx inp s vo vb gs fv cn sn) (h4:s.heap.length≤4000) {k:Nat} {o:Ob} (hk:s.heap[k]?=some o) (j:Nat) (u:V) (hj:j<o.fs.length):
  Calls Tryz.prog 238 #[.pointer (some ⟨bw,0,none⟩),.agg #[.int .i32 0,.int .i64 ((k:Int)+1)],.int .i64 j,aG u] w fun en w'=>But (FrQ P w0) w w'∧en= .returned (.int .i64 0)∧WdQ P w0 w' bw tx inp (s.put k j u) vo vb gs fv cn sn:=by
 have b1:=(List.getElem?_eq_some_iff.1 hk).1;obtain⟨u',hu⟩: ∃u',o.fs[j]?=some u':=⟨_,List.getElem?_eq_getElem hj⟩;obtain⟨o',g,v,h1,h2,h3,a7,h5⟩:=h.obj b1;rw[hk]at h1
 cases h1
 have HO:=hid (fun X (hX:But (fun _=>False) w X)=>gQ (h.new hX) h4 b1 h2);have b3:=ae a7;obtain⟨af,cf,rfl⟩:=aw h5;obtain⟨gf,rfl,a5,b2,a0⟩:=aI h5 (by omega);have q0:w.cell? ⟨gf,j*2,none⟩=some (.int .i32 (xN u')):=a0 _ _ (bp (k:=0) hu (by omega));have q1:w.cell? ⟨gf,j*2+1,none⟩=some (.int .i64 (xO u')):=a0 _ _ (bp (k:=1) hu (by omega));obtain⟨cur,a4⟩:=cD h5 (g:=gf) rfl;have z0:=frozen_of_row w gf (j*2) _ _ a4;have z1:=frozen_of_row w gf (j*2+1) _ _ a4;have b0:FrQ P w0 gf:=h.k8 (List.mem_of_getElem? h3) (g:=gf) rfl;have HS:=hid (fun X (hX:But (fun _=>False) w X)=>(h.new hX).setF hk h2 h3 (g:=gf) rfl j u)
 have b4:0≤(j:Int):=by omega
 have b5:(j:Int)<(o.fs.length:Int):=by omega
 clear h hk h2 h3 h5 hu a0 a4;unfold aG;generalize o.fs.length=nf at*
 go_in
 go_wp2_with fail;refine(HO.out _ ((But.alloc _ _ _).trans (But.alloc _ _ _))).mono ?_;rintro en w1 ⟨a8,rfl⟩;have a2:But (fun _=>False) w w1:=((But.alloc _ _ _).trans (But.alloc _ _ _)).trans a8;have a6:=(a8.block (w.heap.size+1) (by simp) (fun h=>h)).trans (aq (by simp) (.cells #[.int .i32 (xN u),.int .i64 (xO u)] 168));have hx:=(a2.block g b3 (fun h=>h)).trans a7;have x1:=ce1 hx;have v0:=ce0 a6;have v1:=ce1 a6;have m1:=ae a6;have m2:=ae hx;have a1:=Nat.lt_of_lt_of_le a5 a2.size;have p0:=a2.kc q0 a5;have p1:=a2.kc q1 a5;have p2:=a2.kz z0 a5;have p3:=a2.kz z1 a5;clear a8 HO q0 q1 z0 z1 a7 hx a6
 go_wp2_with fail;have HP:=hid (And.intro p0 (And.intro p1 (And.intro p2 p3)));clear p0 p1 p2 p3;have a3:But (fun _=>False) w1 w1.drew:=But.drew _ _;refine aD (But (fun _=>False) w1) 7 (by kernel_rfl) ?_
 iterate 7 (refine aJ (v:=?_) rfl (by kernel_rfl) (fun _ _ _ h=>h) rfl a3 ?_ ?_;rotate_left;(focus (intro wS h;have q0:=(h.kc x1 m2);have q1:=(h.kc v0 m1);have q2:=(h.kc v1 m1);clear h;go_simp;try rfl));dsimp only[Act.put];try simp only[aK])
 obtain⟨p0,p1,p2,p3⟩:=HP.out;have t0:=a3.kc p0 a1;have t1:=a3.kc p1 a1;have t2:=a3.kz p2 a1;have t3:=a3.kz p3 a1;have a9:=a2.trans a3;clear x1 v0 v1 a3 HP p0 p1 p2 p3;generalize w1.drew=wd at*;refine jM rfl (by kernel_rfl) ?_;go_wp2_with fail;go_ret;exact⟨(a9.mono (fun _ _ h=>h.elim)).trans ((But.setCell wd (a:=⟨gf,j*2,none⟩) (F:=FrQ P w0) b0 _).trans (But.setCell _ (a:=⟨gf,j*2+1,none⟩) b0 _)),rfl,HS.out wd a9⟩
theorem zZ (h:WdQ P w0 w bw tx inp s vo vb gs fv cn sn) (h4:s.heap.length≤4000) (c:UInt8):
  Calls Tryz.prog 239 #[.pointer (some ⟨bw,0,none⟩),.agg #[.int .i32 0,.int .i64 0],.int .u8 c.toNat] w fun en w'=>But (fun _=>False) w w'∧en= .returned (.tuple #[.agg #[.int .i32 0,.int .i64 0],.int .i64 0]):=by
 have HO:=hid (fun X (hX:But (fun _=>False) w X)=>gP (h.new hX) h4);clear h
 go_in
 go_wp2_with fail;refine(HO.out _ ((But.alloc _ _ _).trans (But.alloc _ _ _))).mono ?_;rintro en w1 ⟨a0,rfl⟩;have a1:=(a0.block w.heap.size (by simp;omega) (fun h=>h)).trans (((But.alloc (fun _=>False) _ _).block _ (by simp) (fun h=>h)).trans (heap_alloc_new w (.cells #[.int .i32 0,.int .i64 0] 168)));have v0:=ce0 a1;have v1:=ce1 a1;have a2:cQ w1 (w.heap.size+1):=cQ.but ⟨0,0,aq (by simp) _⟩ a0 (fun h=>h);have a3:But (fun _=>False) w w1:=((But.alloc _ _ _).trans (But.alloc _ _ _)).trans a0;obtain⟨K9,N9,r0,r1,f0,f1,a5⟩:=a2.parts;have a4:=ae a1;clear a0 HO a1;go_wp2_with fail
 go_quiet (fail)
 go_wp2_with fail;exact cV Tryz.results239 rfl rfl rfl ((a2.but (But.drewN (fun _=>False) _ _) (fun h=>h)).put _ _) ⟨(a3.trans (But.drewN _ _ _)).next (cU _ _ _ _) (fun k hk e=>by have e:k=w.heap.size+1:=e;omega),rfl⟩
theorem z6 (h:WdQ P w0 w bw tx inp s vo vb gs fv cn sn) (h4:s.heap.length≤4000) {k:Nat} {o:Ob} (hk:s.heap[k]?=some o) (cs:List bv) (hn:cs.length≤100) (hT:TxC w0 tx cs) (a c:UInt8) (ha:a.toNat=65+o.cls):
  Calls Tryz.prog 239 #[.pointer (some ⟨bw,0,none⟩),.agg #[.int .i32 0,.int .i64 ((k:Int)+1)],.int .u8 c.toNat] w fun en w'=>But (fun _=>False) w w'∧en= .returned (if df cs c cs.length a=true then .tuple #[.agg #[.int .i32 0,.int .i64 ((k:Int)+1)],.int .i64 0]else .tuple #[.agg #[.int .i32 0,.int .i64 0],.int .i64 4]):=by
 have a5:=(List.getElem?_eq_some_iff.1 hk).1;obtain⟨o',g,v,h1,h2,h3,a1,h5⟩:=h.obj a5;rw[hk]at h1
 cases h1
 have HO:=hid (fun X (hX:But (fun _=>False) w X)=>gQ (h.new hX) h4 a5 h2);have a7:=ae a1;have a8:=h.wd.lt;have HK:=hid h.wd;have HC:=hid (fun X (hX:But (fun _=>False) w X)=>nj tx cs a c X hn (hT.but (h.old.trans hX)));obtain⟨r,hr⟩: ∃r,df cs c cs.length a=r:=⟨_,rfl⟩;rw[hr]at HC⊢;rw[←ha]at a1;clear h hk h2 h3 h5 hr ha
 go_in
 go_wp2_with fail;refine(HO.out _ ((But.alloc _ _ _).trans (But.alloc _ _ _))).mono ?_;rintro en w1 ⟨a2,rfl⟩;have a3:=(a2.block w.heap.size (by simp;omega) (fun h=>h)).trans (((But.alloc (fun _=>False) _ _).block _ (by simp) (fun h=>h)).trans (heap_alloc_new w (.cells #[.int .i32 0,.int .i64 ((k:Int)+1)] 168)));have v0:=ce0 a3;have v1:=ce1 a3;have a4:cQ w1 (w.heap.size+1):=cQ.but ⟨0,0,aq (by simp) _⟩ a2 (fun h=>h);have a0:But (fun _=>False) w w1:=((But.alloc _ _ _).trans (But.alloc _ _ _)).trans a2;have hx:=(a0.block g a7 (fun h=>h)).trans a1;have x0:=ce0 hx;have c0:=(HK.out.but a0 (fun h=>h)).c0
 obtain⟨K9,N9,r0,r1,f0,f1,b0⟩:=a4.parts;have a9:=ae a3;clear a2 HO a3 HK hx a1;have a6:=hid (fun n=>HC.out (w1.drewN n) (a0.trans (But.drewN _ _ _)));clear HC;go_wp2_with fail
 go_quiet (exact Calls.quiet_of_same (a6.out _))
 cases r with
 |true=>
  go_wp2_with fail;exact cV Tryz.results239 rfl rfl rfl ((a4.but (But.drewN (fun _=>False) _ _) (fun h=>h)).put _ _) ⟨(a0.trans (But.drewN _ _ _)).next (cU _ _ _ _) (fun k hk e=>by have e:k=w.heap.size+1:=e;omega),rfl⟩
 |false=>
  go_wp2_with fail;exact cV Tryz.results239 rfl rfl rfl ((a4.but (But.drewN (fun _=>False) _ _) (fun h=>h)).put _ _) ⟨(a0.trans (But.drewN _ _ _)).next (cU _ _ _ _) (fun k hk e=>by have e:k=w.heap.size+1:=e;omega),rfl⟩
theorem WdQ.newOb {w2:World} {gq base:Nat} {vf vb':Value} {o:Ob} (h:WdQ P w0 w bw tx inp s vo vb gs fv cn sn) (ho:XoC w gq (65+o.cls) vf 0) (hf:w.ownsRow base 168 2 vf o.fs.length (au o.fs)) (hb:w0.heap.size≤base)
  (hq:w0.heap.size≤gq∧ ¬P gq∧gq∉gs) (hfn: ∀g,vf.ownBlock=some g→ ¬P g∧ ∀v∈fv,v.ownBlock≠some g) (hB:But (fun k=>vb.ownBlock=some k) w w2) (hown:w2.ownsRow w0.heap.size 315 1 vb' (s.heap.length+1) (ej gs++ [.pointer (some ⟨gq,0,none⟩)])) (hP: ∀g,vb'.ownBlock=some g→ ¬P g):
  WdQ P w0 (w2.setCell ⟨bw,4,none⟩ vb') bw tx inp {s with heap:=s.heap++ [o]} vo vb' (gs++ [gq]) (fv++ [vf]) cn (fun k=>if k=s.heap.length then 0 else sn k):=by
 have hS:But (· =bw) w2 (w2.setCell ⟨bw,4,none⟩ vb'):=But.setB _ _ _ _;have a1:XwC w2 bw tx inp (min s.read inp.size:Nat) vo vb cn:=h.wd.but hB (aC h.ob h.wd (by decide));have row: ∀{v:Value} {t b n z:Nat} {xs:List Value},t≠315→t≠211→w.ownsRow b t z v n xs→(w2.setCell ⟨bw,4,none⟩ vb').ownsRow b t z v n xs:=fun h1 h2 hr=>ah (ah hr hB (fun g hg=>jA hr h.ob h1 hg)) hS (fun g hg e=>aC hr h.wd h2 (e▸hg))
 have blk: ∀{k t:Nat} {c:Array Value} {fr:Nat×Nat},t≠315→t≠211→w.heap[k]?=some (.cells c t fr)→(w2.setCell ⟨bw,4,none⟩ vb').heap[k]?=some (.cells c t fr):=fun h1 h2 hk=>by
  have e1:=(hB.block _ (ae hk) (fun hv=>aC h.ob hk (Ne.symm h1) hv)).trans hk;exact(hS.block _ (ae e1) (br hk h.wd (Ne.symm h2))).trans e1
 refine⟨(h.old.next hB (fun k hk hv=>by have:=(h.k5 hv).1;omega)).next hS (fun k hk e=>by have e:k=bw:=e;have:=h.k2.1;omega),a1.set4 vb',row (by decide) (by decide) h.out,?_,by simp[h.lg],by simp[h.lf],?_,?_,?_,?_,?_,h.se.1,fun k=> ?_⟩
 ·rw[List.length_append,show ej (gs++ [gq])=ej gs++ [.pointer (some ⟨gq,0,none⟩)]from by simp[ej]];exact ah hown hS (fun g hg e=>aC hown a1 (by decide) (e▸hg))
 ·intro k o' g v hk hg hv;rcases eM hk with⟨h1,h2⟩ | ⟨h1,rfl⟩
  ·rcases eM hg with⟨h3,h4⟩ | ⟨h3,_⟩
   ·rcases eM hv with⟨h5,h6⟩ | ⟨h5,_⟩
    ·obtain⟨x,y⟩:=h.obs k o' g v h2 h4 h6;rw[if_neg (by omega)];exact⟨blk (by decide) (by decide) x,row (by decide) (by decide) y⟩
    ·rw[h.lf]at h5;omega
   ·rw[h.lg]at h3;omega
  ·rcases eM hg with⟨h3,_⟩ | ⟨_,rfl⟩
   ·rw[h.lg]at h3;omega
   ·rcases eM hv with⟨h5,_⟩ | ⟨_,rfl⟩
    ·rw[h.lf]at h5;omega
    ·rw[if_pos h1];exact⟨blk (by decide) (by decide) ho,vR (row (by decide) (by decide) hf) hb⟩
 ·intro j k g hj hk;rcases eM hj with⟨h1,h2⟩ | ⟨h1,rfl⟩
  ·rcases eM hk with⟨h3,h4⟩ | ⟨h3,rfl⟩
   ·exact h.nd j k g h2 h4
   ·exact absurd (List.mem_of_getElem? h2) hq.2.2
  ·rcases eM hk with⟨h3,h4⟩ | ⟨h3,_⟩
   ·exact absurd (List.mem_of_getElem? h4) hq.2.2
   ·omega
 ·intro k hk;rcases hk with rfl|hk|hk|hk| ⟨v,hv,hk⟩
  ·exact h.k2
  ·exact h.k4 hk
  ·exact⟨aA hown k hk,hP k hk⟩
  ·rcases List.mem_append.1 hk with hk|hk
   ·exact h.k7 hk
   ·rw[List.mem_singleton]at hk;subst hk;exact⟨hq.1,hq.2.1⟩
  ·rcases List.mem_append.1 hv with hv|hv
   ·exact h.k8 hv hk
   ·rw[List.mem_singleton]at hv;subst hv;exact⟨Nat.le_trans hb (aA hf k hk),(hfn k hk).1⟩
 ·intro k hk;obtain⟨a,b⟩:=h.pl k hk;have e1:=hB.block k a (fun hv=>(h.k5 hv).2 hk);have e2:=hS.block k (Nat.lt_of_lt_of_le a hB.size) (fun e=>h.k2.2 (e▸hk));refine⟨by rw[bV];exact Nat.lt_of_lt_of_le a hB.size,fun c fz e=> ?_⟩;rw[e2,e1]at e;exact b c fz e
 ·intro j k v v' g hj hk hg a0;rcases eM hj with⟨h1,h2⟩ | ⟨h1,rfl⟩
  ·rcases eM hk with⟨h3,h4⟩ | ⟨h3,rfl⟩
   ·exact h.sf j k v v' g h2 h4 hg a0
   ·exact absurd hg ((hfn g a0).2 v (List.mem_of_getElem? h2))
  ·rcases eM hk with⟨h3,h4⟩ | ⟨h3,rfl⟩
   ·exact absurd a0 ((hfn g hg).2 v' (List.mem_of_getElem? h4))
   ·omega
 ·by_cases e:k=s.heap.length
  ·rw[if_pos e];exact⟨Int.le_refl _,h.se.1⟩
  ·rw[if_neg e];exact h.se.2 k
theorem WdQ.res {X:World} (h:WdQ P w0 w bw tx inp s vo vb gs fv cn sn) (hB:But (fun _=>False) w X) {r:Nat} (hr:w.heap.size≤r) (a b:Value):WdQ P w0 ((X.setCell ⟨r,0,none⟩ a).setCell ⟨r,1,none⟩ b) bw tx inp s vo vb gs fv cn sn:=
 (h.new hB).but (cU X r a b) (fun k e=>by have e:k=r:=e;have:=h.old.size;omega) (fun k hk e=>by have e:k=r:=e;have:=h.lt hk;omega) (fun k hk e=>by have e:k=r:=e;have:=(h.pl k hk).1;omega)
theorem oM (h:WdQ P w0 w bw tx inp s vo vb gs fv cn sn) (h40:inp.size≤40):
  Calls Tryz.prog 232 #[.pointer (some ⟨bw,0,none⟩)] w fun en w'=>But (FrQ P w0) w w'∧en= .returned (aG (.i (iS inp s.read)))∧WdQ P w0 w' bw tx inp {s with read:=s.read+1} vo vb gs fv cn sn:=by
 unfold aG;simp only[xN,xO];have a2:=h.wd.lt;have c1:=h.wd.c1;have c2:=h.wd.c2;have z2:=h.wd.fz 2
 by_cases hr:s.read<inp.size
 ·have e:min s.read inp.size=s.read:=by omega
  rw[e]at c2;have d1:decide ((s.read:Int)<0)=false:=decide_eq_false (by omega);have d2:decide ((inp.size:Int)≤(s.read:Int))=false:=decide_eq_false (by omega);have hI:(s.read:Int)<(inp.size:Int):=by omega
  have a4:iS inp s.read=(inp[s.read].toNat:Int):=by unfold iS;rw[dif_pos hr]
  rw[a4];have HS:=hid h;have HH:=hid h;have b3:=inp[s.read].toNat_lt;have b1:=h.k2;clear e a4 h
  go_in
  go_wp2_with fail
  go_quiet (fail)
  go_wp2_with fail;have a0:But (fun _=>False) w ((w.alloc (.cells #[.int .i32 0,.int .i64 0] 168)).drewN nq):=(But.alloc _ _ _).trans (But.drewN _ _ _);have a3:cQ ((w.alloc (.cells #[.int .i32 0,.int .i64 0] 168)).drewN nq) w.heap.size:=⟨0,0,heap_alloc_new _ _⟩;revert a0 a3;generalize ((w.alloc (.cells #[.int .i32 0,.int .i64 0] 168)).drewN nq)=X;intro a0 a3;have e1:=a0.kc c1 a2;have e2:=a0.kc c2 a2;have e3:=a0.kz z2 a2;have a9:=Nat.lt_of_lt_of_le a2 a0.size;clear nq
  go_quiet (fail)
  have a1:=a0.trans (But.drewN (fun _=>False) X nq);have a5:=a3.but (But.drewN (fun _=>False) X nq) (fun h=>h);have a6:=hid ((HS.out.new a1).readd (n:=s.read+1) (by omega));have q2:=a1.kc c2 a2;have q3:=a1.kz z2 a2;clear e1 e2 e3 a3 HS;revert a1 a5 a6 q2 q3;generalize X.drewN nq=Y;intro a1 a5 a6 q2 q3;have b0:=Nat.lt_of_lt_of_le a2 a1.size;obtain⟨K9,N9,r0,r1,f0,f1,b4⟩:=a5.parts;have b2: ¬bw=w.heap.size:=by omega
  have a7:=a6.out;rw[show((s.read+1:Nat):Int)=(s.read:Int)+1 from by simp]at a7;go_wp2_with fail;have a8:But (FrQ P w0) w (Y.setCell ⟨bw,2,none⟩ (.int .i64 ((s.read:Int)+1))):=(a1.mono (fun _ _ h=>h.elim)).trans (But.setCell Y (a:=⟨bw,2,none⟩) (F:=FrQ P w0) b1 _)
  exact pz Tryz.results232 rfl rfl ((a5.but (But.setB _ _ _ _) (fun e=>b2 e.symm)).put _ _) ⟨a8.next (cU _ _ _ _) (fun k hk e=>by have e:k=w.heap.size:=e;omega),rfl,
   a7.but (cU _ _ _ _) (fun k e=>by have e:k=w.heap.size:=e;have:=HH.out.old.size;omega) (fun k hk e=>by have e:k=w.heap.size:=e;have:=HH.out.lt hk;omega) (fun k hk e=>by have e:k=w.heap.size:=e;have:=(HH.out.pl k hk).1;omega)⟩
 ·have e:min s.read inp.size=inp.size:=by omega
  rw[e]at c2;have d1:decide ((inp.size:Int)<0)=false:=decide_eq_false (by omega);have d2:decide ((inp.size:Int)≤(inp.size:Int))=true:=decide_eq_true (by omega);have a4:iS inp s.read= -1:=by unfold iS;rw[dif_neg hr]
  rw[a4];have HS:=hid (h.unread (by omega));clear e a4 h
  go_in
  go_wp2_with fail
  go_quiet (fail)
  go_wp2_with fail;have a0:But (fun _=>False) w ((w.alloc (.cells #[.int .i32 0,.int .i64 0] 168)).drewN nq):=(But.alloc _ _ _).trans (But.drewN _ _ _);have a3:cQ ((w.alloc (.cells #[.int .i32 0,.int .i64 0] 168)).drewN nq) w.heap.size:=⟨0,0,heap_alloc_new _ _⟩;exact pz Tryz.results232 rfl rfl (a3.put _ _) ⟨(a0.mono (fun _ _ h=>h.elim)).next (cU _ _ _ _) (fun k hk e=>by have e:k=w.heap.size:=e;omega),rfl,HS.out.res a0 (Nat.le_refl _) _ _⟩
theorem oe (h:WdQ P w0 w bw tx inp s vo vb gs fv cn sn) (h4:s.heap.length≤4000) (cs:List bv) (hn:cs.length≤100) (hT:TxC w0 tx cs) (c:UInt8) (o:Ob) (hc:c.toNat=65+o.cls) (ts:List UInt8) (hts:bH cs c=ts) (ht5:ts.length≤100) (hof:o.fs=ts.map cB):
  Calls Tryz.prog 236 #[.pointer (some ⟨bw,0,none⟩),.int .u8 c.toNat] w fun en w'=>But (FrQ P w0) w w'∧en= .returned (aG (.o s.heap.length))∧ ∃vb' gs' fv' sn',WdQ P w0 w' bw tx inp {s with heap:=s.heap++ [o]} vo vb' gs' fv' cn sn':=by
 have HF:=hid (fun X (hX:But (fun _=>False) w X)=>kS tx cs c X hn (hT.but (h.old.trans hX)));rw[hts]at HF;have e6:=sx ts.length (by omega);have c0:=h.wd.c0;have b3:=h.wd.lt;obtain⟨ab,capb,rfl⟩:=aw h.ob;have c4:=h.wd.c4;have z4:=h.wd.fz 4;have a7:=h.ob;have e1:=h.old.size;have HH:=hid h;have HC:=hid hc;have HO:=hid hof;clear h hc hts hof;have f6:bw<w.heap.size+1:=by omega
 have f7:bw<w.heap.size+1+1:=by omega
 have f8:bw<w.heap.size+1+1+1:=by omega
 obtain⟨i0,e4,f2,f3,f4⟩:=info_parts zX;obtain⟨W,a5⟩: ∃W,((w.alloc (.cells #[.int .i32 0,.int .i64 0] 168)).alloc (.cells (fp ts.length).toArray 168)).alloc (.cells #[.int .u8 c.toNat,.slice (some ⟨w.heap.size+1,0,none⟩) ts.length ts.length,.int .i64 0] 318)=W:=⟨_,rfl⟩;have a6:But (fun _=>False) w W:=by rw[←a5];exact((But.alloc _ _ _).trans (But.alloc _ _ _)).trans (But.alloc _ _ _)
 have c6:W.heap.size=w.heap.size+1+1+1:=by rw[←a5];simp
 have b6:cQ W w.heap.size:=by rw[←a5];exact⟨0,0,(((But.alloc (fun _=>False) _ _).trans (But.alloc _ _ _)).block _ (by simp) (fun h=>h)).trans (heap_alloc_new w _)⟩
 have b4:W.heap[w.heap.size+1]?=some (.cells (fp ts.length).toArray 168):=by rw[←a5];exact((But.alloc (fun _=>False) _ _).block _ (by simp) (fun h=>h)).trans (aq (by simp) _)
 have b5:W.heap[w.heap.size+1+1]?=some (.cells #[.int .u8 c.toNat,.slice (some ⟨w.heap.size+1,0,none⟩) ts.length ts.length,.int .i64 0] 318):=by rw[←a5];exact aq (by simp) _
 have b1:=hid a5;clear a5;have b2:=ah a7 a6 (fun _ _ h=>h)
 go_in
 go_wp2_with fail;refine(HF.out _ (But.alloc _ _ _)).mono ?_;rintro en w1 ⟨rfl,d6⟩;rw[d6];clear d6 w1;go_wp2_with (at_builtin;rw[b1.out];refine wpList_append_lies _ rfl _ _ _ rfl w0.heap.size 315 i0 _ 1 8 (by kernel_rfl) e4 f2 f3 f4 rfl (by omega) _ s.heap.length (ej gs) rfl (ah b2 (But.alloc (fun _=>False) _ _) (fun _ _ h=>h)) ⟨w.heap.size+1+1+1,0,none⟩ 1 1 [.pointer (some ⟨w.heap.size+1+1,0,none⟩)] rfl rfl (World.news_of_block (cs:=#[.pointer (some ⟨w.heap.size+1+1,0,none⟩)]) (t:=315) (fr:=(0,0)) (aq c6 _)) (by simp[Value.oneCell']) (by omega) (by unfold maxLen;omega) (by omega) (by simp;omega) (w.heap.size+1+1+1+1) (by simp[c6]) ?_)
 intro gg a0 w2 a3 a2 a1 e5;have a4:But (fun k=>(Value.slice ab s.heap.length capb).ownBlock=some k) W w2:=(But.alloc _ _ _).trans (ba a2);have b9:(Value.slice ab s.heap.length capb).ownBlock≠some bw:=aC a7 HH.out.wd (by decide);have a8:bw<W.heap.size:=by omega
 have y4:=(a4.cell (p:=⟨bw,4,none⟩) a8 b9).trans (a6.kc c4 b3);have y5:=(a4.frozen (p:=⟨bw,4,none⟩) a8 b9).trans (a6.kz z4 b3);have f5:bw<w2.heap.size:=Nat.lt_of_lt_of_le a8 a4.size;have b0:cQ w2 w.heap.size:=b6.but a4 (fun hv=>by have:=aW a7 _ hv;omega);have a9: ∀k,nZ bw vo (.slice ab s.heap.length capb) gs fv k→k<w.heap.size:=fun k hk=>HH.out.lt hk
 have e9:=(HH.out.new a6).newOb (o:=o) (gq:=w.heap.size+1+1) (vf:= .slice (some ⟨w.heap.size+1,0,none⟩) ts.length ts.length) (vb':= .slice (some ⟨gg,0,none⟩) (s.heap.length+1) a0) (by rw[←HC.out];exact b5) (by rw[HO.out,List.length_map];exact sy (base:=w.heap.size) (by omega) b4 (by omega)) e1
  ⟨by omega,fun hp=>by have:=(HH.out.pl _ hp).1;omega,fun hm=>by have:=a9 _ (Or.inr (Or.inr (Or.inr (Or.inl hm))));omega⟩
  (fun g hg=>by
   simp only[Value.ownBlock,Option.some.injEq]at hg;subst hg;exact⟨fun hp=>by have:=(HH.out.pl _ hp).1;omega,fun v hv hl=>by have:=a9 _ (Or.inr (Or.inr (Or.inr (Or.inr ⟨v,hv,hl⟩))));omega⟩)
  a4 a3 (fun g hg hp=>by
   simp only[Value.ownBlock,Option.some.injEq]at hg;subst hg;rcases a1 with a1|a1
   ·exact(HH.out.k5 a1).2 hp
   ·have:=(HH.out.pl _ hp).1;omega)
 have e2:But (FrQ P w0) w (w2.setCell ⟨bw,4,none⟩ (.slice (some ⟨gg,0,none⟩) (s.heap.length+1) a0)):=((a6.mono (fun _ _ h=>h.elim)).trans (a4.mono (fun k _ hv=>HH.out.k5 hv))).trans (But.setCell w2 (a:=⟨bw,4,none⟩) (F:=FrQ P w0) HH.out.k2 _);have e8:=b0.but (But.setB w2 bw 4 (.slice (some ⟨gg,0,none⟩) (s.heap.length+1) a0)) (fun e=>by have e:w.heap.size=bw:=e;omega)
 have e3: ∀k,nZ bw vo (.slice (some ⟨gg,0,none⟩) (s.heap.length+1) a0) (gs++ [w.heap.size+1+1]) (fv++ [.slice (some ⟨w.heap.size+1,0,none⟩) ts.length ts.length]) k→k≠w.heap.size:=by
  intro k hk;have old: ∀{k},nZ bw vo (.slice ab s.heap.length capb) gs fv k→k≠w.heap.size:=fun hk=>by have:=a9 _ hk;omega
  rcases hk with rfl|hk|hk|hk| ⟨v,hv,hk⟩
  ·exact old (Or.inl rfl)
  ·exact old (Or.inr (Or.inl hk))
  ·simp only[Value.ownBlock,Option.some.injEq]at hk;subst hk;rcases a1 with a1|a1
   ·exact old (Or.inr (Or.inr (Or.inl a1)))
   ·omega
  ·rcases List.mem_append.1 hk with hk|hk
   ·exact old (Or.inr (Or.inr (Or.inr (Or.inl hk))))
   ·rw[List.mem_singleton]at hk;omega
  ·rcases List.mem_append.1 hv with hv|hv
   ·exact old (Or.inr (Or.inr (Or.inr (Or.inr ⟨v,hv,hk⟩))))
   ·rw[List.mem_singleton]at hv;subst hv;simp only[Value.ownBlock,Option.some.injEq]at hk;omega
 have e0:Hid (∀k,P k→k<w.heap.size):=fun k hk=>(HH.out.pl k hk).1
 obtain⟨K9,N9,r0,r1,f0,f1,g1⟩:=b0.parts;have g0: ¬bw=w.heap.size:=by omega
 have e7: ¬w.heap.size=bw:=by omega
 clear HF e6 c0 c4 z4 HO HC b4 b5 b6 b2 a7 a3 a2 a1 b1 b0 a4 HH;go_wp2_with fail
 exact pz Tryz.results236 rfl rfl (e8.put _ _) ⟨e2.next (cU _ _ _ _) (fun k hk e=>by have e:k=w.heap.size:=e;omega),rfl,_,_,_,_,
  e9.but (cU _ _ _ _) (fun k e=>by have e:k=w.heap.size:=e;omega) (fun k hk e=>e3 k hk e) (fun k hk e=>by have e:k=w.heap.size:=e;have:=e0.out k hk;omega)⟩
theorem cX.frameW (h:WdQ P w0 w bw tx inp s vo vb gs fv cn sn) (ht:cX w0 w w'):But (FrQ P w0) w w':=by
 refine⟨ht.bel.os,ht.bel.tape,ht.bel.output,ht.bel.size,fun k hk hf=> ?_⟩
 by_cases h0:k<w0.heap.size
 ·exact ht.bel.block k h0
 ·have hp:P k:=Classical.byContradiction fun hp=>hf ⟨by omega,hp⟩
  rw[ht.kept k _ (Array.getElem?_eq_getElem hk) (fun c fz e=>(h.pl k hp).2 c fz (by rw[Array.getElem?_eq_getElem hk,e])),Array.getElem?_eq_getElem hk]
theorem WdQ.say {vo':Value} {o:List UInt8} (h:WdQ P w0 w bw tx inp s vo vb gs fv cn sn) (ht:cX w0 w w') (hrow:w'.ownsRow w0.heap.size 5 1 vo' o.length (Lib.byteCells o)):
  WdQ P w0 (w'.setCell ⟨bw,3,none⟩ vo') bw tx inp {s with out:=o} vo' vb gs fv cn sn:=by
 have hS:But (· =bw) w' (w'.setCell ⟨bw,3,none⟩ vo'):=But.setB _ _ _ _;have a0: ∀{k t:Nat} {c:Array Value} {fr:Nat×Nat},t≠5→w.heap[k]?=some (.cells c t fr)→w'.heap[k]?=some (.cells c t fr):=fun h1 hk=>ht.kept _ _ hk (fun c fz e=>by injection e with _ e2;exact h1 e2)
 have a2:XwC w' bw tx inp (min s.read inp.size:Nat) vo vb cn:=a0 (by decide) h.wd;have blk: ∀{k t:Nat} {c:Array Value} {fr:Nat×Nat},t≠5→t≠211→w.heap[k]?=some (.cells c t fr)→(w'.setCell ⟨bw,3,none⟩ vo').heap[k]?=some (.cells c t fr):=fun h1 h2 hk=>(hS.block _ (ae (a0 h1 hk)) (br hk h.wd (Ne.symm h2))).trans (a0 h1 hk)
 have row: ∀{v:Value} {t b n z:Nat} {xs:List Value},t≠5→t≠211→w.ownsRow b t z v n xs→(w'.setCell ⟨bw,3,none⟩ vo').ownsRow b t z v n xs:=fun h1 h2 hr=>by
  refine⟨hr.1,?_⟩;rcases hr.2 with a4| ⟨g,cap,cur,hv,hg,hh,r⟩
  ·exact Or.inl a4
  ·exact Or.inr ⟨g,cap,cur,hv,hg,blk h1 h2 hh,r⟩
 have a1:But (fun _=>False) w0 w':=⟨ht.bel.os.trans h.old.os,ht.bel.tape.trans h.old.tape,ht.bel.output.trans h.old.output,Nat.le_trans h.old.size ht.bel.size,fun k hk _=>(ht.bel.block k hk).trans (h.old.block k hk (fun h=>h))⟩
 have a3: ∀g,vo'.ownBlock=some g→ ¬P g:=fun g hg hp=>by
  obtain⟨cur,hc⟩:=cD hrow hg;obtain⟨a,b⟩:=h.pl g hp;have e1:=ht.kept g _ (Array.getElem?_eq_getElem a) (fun c fz e=>b c fz (by rw[Array.getElem?_eq_getElem a,e]));rw[e1]at hc;exact b cur (0,0) (by rw[Array.getElem?_eq_getElem a];exact hc)
 refine⟨a1.next hS (fun k hk e=>by have e:k=bw:=e;have:=h.k2.1;omega),a2.set3 vo',ah hrow hS (fun g hg e=>aC hrow a2 (by decide) (e▸hg)),row (by decide) (by decide) h.ob,h.lg,h.lf,fun k o g v a b c=>⟨blk (by decide) (by decide) (h.obs k o g v a b c).1,row (by decide) (by decide) (h.obs k o g v a b c).2⟩,h.nd,fun k hk=> ?_,fun k hk=> ?_,h.sf,h.se⟩
 ·rcases hk with rfl|hk|hk|hk| ⟨v,hv,hk⟩
  ·exact h.k2
  ·exact⟨aA hrow k hk,a3 k hk⟩
  ·exact h.k5 hk
  ·exact h.k7 hk
  ·exact h.k8 hv hk
 ·obtain⟨a,b⟩:=h.pl k hk;have e1:=ht.kept k _ (Array.getElem?_eq_getElem a) (fun c fz e=>b c fz (by rw[Array.getElem?_eq_getElem a,e]));have e2:=hS.block k (ae e1) (fun e=>h.k2.2 (e▸hk));refine⟨by rw[bV];exact ae e1,fun c fz e=> ?_⟩;rw[e2,e1]at e;exact b c fz (by rw[Array.getElem?_eq_getElem a];exact e)
theorem sC (h:WdQ P w0 w bw tx inp s vo vb gs fv cn sn) (ht:dc w0) (n:Int) (h1: -2147483648≤n) (h2:n<2147483648) (hol:s.out.length≤90000):
  Calls Tryz.prog 233 #[.pointer (some ⟨bw,0,none⟩),.int .i32 n] w fun en w'=>But (FrQ P w0) w w'∧en= .returned (.tuple #[])∧ ∃vo',WdQ P w0 w' bw tx inp (s.say n) vo' vb gs fv cn sn:=by
 have hT:Lib.TabBelow Tryz.prog w0.heap.size w0 "internal/strconv.uint64pow10" .u64 Lib.pow10Tab:=Lib.tabBelow_of_tabIs ht;have b6:=hT.on (wH h.old);have HA:=hid (oI w0.heap.size s.out.length n h1 h2 vo _ w h.out h.old.size (by omega) b6);have c3:=h.wd.c3;have f4:=h.wd.lt;have HH:=hid h;obtain⟨ao,capo,rfl⟩:=aw h.out;clear h hT b6;have e7:=Lib.itoa_length_le n (by omega) (by omega);obtain⟨D,hD⟩: ∃D,Lib.itoa n=D:=⟨_,rfl⟩;rw[hD]at HA e7;have HD:=hid hD;clear hD
 go_in
 go_wp2_with fail;refine HA.out.mono ?_;rintro en w1 ⟨v',rfl,a2,b2,a0⟩;rw[←Lib.byteCells_append,←List.length_append]at a2;have b4:cX w0 w w1:=⟨b2,fun k o hk hn=>a0 k o hk (by simp) hn⟩;have b3:=HH.out.say b4 a2;have b5:=cX.frameW HH.out b4;obtain⟨av,capv,rfl⟩:=aw a2;have a3:XwC w1 bw tx inp (min s.read inp.size:Nat) (.slice ao s.out.length capo) vb cn:=a0 _ _ HH.out.wd (by simp) (fun c fz e=>by injection e with _ e2;exact absurd e2 (by decide));have e3:=a3.c3;have z3:=a3.fz 3;have m1:=a3.lt;obtain⟨m,hm⟩: ∃m,(s.out++D).length=m:=⟨_,rfl⟩;have f5:m≤95000:=by rw[←hm];simp;omega
 have a9:=b3.out;simp only at a9;rw[hm]at b3 a9⊢;have HM:=hid hm;have e0:=b3.old.size;have b9:=HH.out.k2;have a8:=hid b3;clear HA b2 a0 a2 b4 a3 hm b3;have a1:(w1.setCell ⟨bw,3,none⟩ (.slice av m capv)).heap.size=w1.heap.size:=bV _ _ _;obtain⟨i0,e6,f0,f1,f2⟩:=info_parts yA;go_wp2_with (at_builtin;refine wpList_append_lies _ rfl _ _ _ rfl w0.heap.size 5 i0 _ 1 1 (by kernel_rfl) e6 f0 f1 f2 rfl (by omega) _ m (Lib.byteCells (s.out++D)) rfl (ah a9 (But.alloc (fun _=>False) _ _) (fun _ _ h=>h)) ⟨w1.heap.size,0,none⟩ 1 1 [.int .u8 32] rfl rfl (World.news_of_block (cs:=#[.int .u8 32]) (t:=5) (fr:=(0,0)) (aq a1 _)) (by simp[Value.oneCell']) (by omega) (by unfold maxLen;omega) (by omega) (by simp;omega) (w1.heap.size+1) (by simp[a1]) ?_)
 intro gg b0 w2 a5 a4 e5 e8;have b1:But (fun k=>(Value.slice av m capv).ownBlock=some k) (w1.setCell ⟨bw,3,none⟩ (.slice av m capv)) w2:=(But.alloc _ _ _).trans (ba a4);have a7:cX w0 (w1.setCell ⟨bw,3,none⟩ (.slice av m capv)) w2:=cX.grown e0 a9 b1
 have a6:w2.ownsRow w0.heap.size 5 1 (.slice (some ⟨gg,0,none⟩) (m+1) b0) (s.out++D++ [32]).length (Lib.byteCells (s.out++D++ [32])):=by
  have e1:(s.out++D++ [32]).length=m+1:=by rw[List.length_append,HM.out];rfl
  rw[e1,Lib.byteCells_append];exact a5
 have e9:=a8.out.say a7 a6;have c6:=aC a9 a8.out.wd (by decide);have y3:=(b1.cell (p:=⟨bw,3,none⟩) (by rw[a1];exact m1) c6).trans a8.out.wd.c3;have y4:=(b1.frozen (p:=⟨bw,3,none⟩) (by rw[a1];exact m1) c6).trans (a8.out.wd.fz 3);have f3:bw<w2.heap.size:=Nat.lt_of_lt_of_le (by rw[a1];exact m1) b1.size
 have e4:But (FrQ P w0) w (w2.setCell ⟨bw,3,none⟩ (.slice (some ⟨gg,0,none⟩) (m+1) b0)):=
  ((b5.trans (But.setCell w1 (a:=⟨bw,3,none⟩) (F:=FrQ P w0) b9 _)).trans (cX.frameW a8.out a7)).trans (But.setCell w2 (a:=⟨bw,3,none⟩) (F:=FrQ P w0) b9 _)
 have d6:Hid (s.say n={s with out:=s.out++D++ [32]}):=by show _=_;simp[Ev.say,HD.out]
 clear a7 a6 b1 a5 a4 e5 a8 a9 e3 z3 c3 HM HD b5;go_wp2_with fail;go_end0;exact⟨e4,rfl,_,by rw[d6.out];exact e9⟩
end
def ReW (P:Nat→Prop) (w0 w:World) (bw tx:Nat) (inp:ByteArray) (cn:Int) (r:R) (en:Ending) (w':World):Prop:=
 But (FrQ P w0) w w'∧ ∃vo vb gs fv sn,match r with
 | .ok u _ s=>en= .returned (.tuple #[aG u,.int .i64 0])∧WdQ P w0 w' bw tx inp s vo vb gs fv cn sn
 | .bad e o=>en= .returned (.tuple #[.agg #[.int .i32 0,.int .i64 0],.int .i64 (bK e)])∧ ∃s,s.out=o∧WdQ P w0 w' bw tx inp s vo vb gs fv cn sn
section
variable {P:Nat→Prop} {w0 w w':World} {bw tx:Nat} {inp:ByteArray} {s:Ev} {vo vb:Value} {gs:List Nat} {fv:List Value} {cn:Int} {sn:Nat→Int} {l:List V}
theorem WdQ.grown {X:World} (h:WdQ P w0 w bw tx inp s vo vb gs fv cn sn) (hN:NB w X):WdQ (PQ P w X) w0 X bw tx inp s vo vb gs fv cn sn:=h.grow hN.but hN.nb
theorem WdQ.fin {X X':World} {r:Nat} (hN:NB w X) (h0:w0.heap.size≤w.heap.size) (hs:WdQ (PQ P w X) w0 X' bw tx inp s vo vb gs fv cn sn) (hB:But (FrQ (PQ P w X) w0) X X') (hr:w.heap.size≤r) (hx:cQ X r) (a b:Int):
  cQ X' r∧But (FrQ P w0) w ((X'.setCell ⟨r,0,none⟩ (.int .i32 a)).setCell ⟨r,1,none⟩ (.int .i64 b))∧WdQ P w0 ((X'.setCell ⟨r,0,none⟩ (.int .i32 a)).setCell ⟨r,1,none⟩ (.int .i64 b)) bw tx inp s vo vb gs fv cn sn:=by
 have a0:r<X.heap.size:=by obtain⟨K,N,hx⟩:=hx;exact ae hx
 have a1:cQ X' r:=hx.but hB (fun hf=>hf.2 (Or.inr ⟨hr,a0⟩));refine⟨a1,?_,?_⟩
 ·refine((hN.but.mono (fun _ _ h=>h.elim)).trans (hB.mono (fun k hk hf=>⟨hf.1,fun hp=>hf.2 (Or.inl hp)⟩))).next (cU _ _ _ _) (fun k hk e=>by have e:k=r:=e;omega)
 ·refine(hs.tmp (F:=(· =r)) (cU _ _ _ _) (fun k e=>by have e:k=r:=e;subst e;exact⟨Or.inr ⟨hr,a0⟩,by omega⟩) (fun k e c fz he=> ?_)).less (fun k hp=>Or.inl hp);have e:k=r:=e;subst e;rw[a1.put]at he
  cases he
theorem WdQ.fin0 {X X':World} {r:Nat} (h:WdQ P w0 w bw tx inp s vo vb gs fv cn sn) (hN:NB w X) (hB:But (fun _=>False) X X') (hr:w.heap.size≤r) (hx:cQ X r) (a b:Int):
  cQ X' r∧But (FrQ P w0) w ((X'.setCell ⟨r,0,none⟩ (.int .i32 a)).setCell ⟨r,1,none⟩ (.int .i64 b))∧WdQ P w0 ((X'.setCell ⟨r,0,none⟩ (.int .i32 a)).setCell ⟨r,1,none⟩ (.int .i64 b)) bw tx inp s vo vb gs fv cn sn:=
 WdQ.fin hN h.old.size ((h.grown hN).new hB) (hB.mono (fun _ _ h=>h.elim)) hr hx a b
theorem Av (h:WdQ P w0 w bw tx inp s vo vb gs fv cn sn) (u v:V) (pl n pn pc:Nat) (c:UInt8) (pa:Option Addr) (hn:n<100):
  Calls Tryz.prog 197 #[.pointer (some ⟨bw,0,none⟩),.agg #[.int .i64 pl,.int .u8 107,.int .u8 c.toNat,.int .i64 n,.slice pa pn pc],aG u,aG v] w (ReW P w0 w bw tx inp cn (.ok (.i n) l s)):=by
 unfold aG
 go_in
 go_wp2_with fail;exact cV Tryz.results197 rfl rfl rfl (aq (by simp) _) ⟨dY.but.mono (fun _ _ h=>h.elim),vo,vb,gs,fv,sn,rfl,h.new dY.but⟩
theorem Aw (h:WdQ P w0 w bw tx inp s vo vb gs fv cn sn) (u v:V) (pl n pn pc:Nat) (c:UInt8) (pa:Option Addr):
  Calls Tryz.prog 197 #[.pointer (some ⟨bw,0,none⟩),.agg #[.int .i64 pl,.int .u8 122,.int .u8 c.toNat,.int .i64 n,.slice pa pn pc],aG u,aG v] w (ReW P w0 w bw tx inp cn (.ok .z l s)):=by
 unfold aG
 go_in
 go_wp2_with fail;exact cV Tryz.results197 rfl rfl rfl (aq (by simp) _) ⟨dY.but.mono (fun _ _ h=>h.elim),vo,vb,gs,fv,sn,rfl,h.new dY.but⟩
theorem Ax (h:WdQ P w0 w bw tx inp s vo vb gs fv cn sn) (h40:inp.size≤40) (u v:V) (pl n pn pc:Nat) (c:UInt8) (pa:Option Addr):
  Calls Tryz.prog 197 #[.pointer (some ⟨bw,0,none⟩),.agg #[.int .i64 pl,.int .u8 114,.int .u8 c.toNat,.int .i64 n,.slice pa pn pc],aG u,aG v] w (ReW P w0 w bw tx inp cn (.ok (.i (iS inp s.read)) l {s with read:=s.read+1})):=by
 have HC:=hid (fun X (hX:NB w X)=>oM (h.grown hX) h40);have h0:=h.old.size;clear h;unfold aG
 go_in
 go_wp2_with fail;refine(HC.out _ dY).mono ?_;rintro en w1 ⟨a0,rfl,a2⟩;have HF:=hid (fun a b=>WdQ.fin dY h0 a2 a0 (r:=w.heap.size+1+1+1) (by omega) ⟨0,0,aq (by simp) _⟩ a b);have a1:=(HF.out 0 0).1;obtain⟨K9,N9,r0,r1,f0,f1,a3⟩:=a1.parts;simp only[aG];clear HC a0 a2;go_wp2_with fail;exact cV Tryz.results197 rfl rfl rfl (a1.put _ _) ⟨(HF.out _ _).2.1,_,_,_,_,_,rfl,(HF.out _ _).2.2⟩
theorem Ay (h:WdQ P w0 w bw tx inp s vo vb gs fv cn sn) (ht:dc w0) (m:Int) (h1: -2147483648≤m) (h2:m<2147483648) (hol:s.out.length≤90000) (v:V) (pl n pn pc:Nat) (c:UInt8) (pa:Option Addr):
  Calls Tryz.prog 197 #[.pointer (some ⟨bw,0,none⟩),.agg #[.int .i64 pl,.int .u8 119,.int .u8 c.toNat,.int .i64 n,.slice pa pn pc],aG (.i m),aG v] w (ReW P w0 w bw tx inp cn (.ok (.i 0) l (s.say m))):=by
 have HC:=hid (fun X (hX:NB w X)=>sC (h.grown hX) ht m h1 h2 hol);have h0:=h.old.size;clear h;unfold aG
 go_in
 go_wp2_with fail;refine(HC.out _ dY).mono ?_;rintro en w1 ⟨a0,rfl,a4,a2⟩;have HF:=hid (fun a b=>WdQ.fin dY h0 a2 a0 (r:=w.heap.size+1+1+1) (by omega) ⟨0,0,aq (by simp) _⟩ a b);have a1:=(HF.out 0 0).1;obtain⟨K9,N9,r0,r1,f0,f1,a3⟩:=a1.parts;simp only[aG];clear HC a0 a2;go_wp2_with fail;exact cV Tryz.results197 rfl rfl rfl (a1.put _ _) ⟨(HF.out _ _).2.1,_,_,_,_,_,rfl,(HF.out _ _).2.2⟩
theorem Az (h:WdQ P w0 w bw tx inp s vo vb gs fv cn sn) (u v:V) (huv:xO u=xO v↔u=v) (pl n pn pc:Nat) (c:UInt8) (pa:Option Addr):
  Calls Tryz.prog 197 #[.pointer (some ⟨bw,0,none⟩),.agg #[.int .i64 pl,.int .u8 101,.int .u8 c.toNat,.int .i64 n,.slice pa pn pc],aG u,aG v] w (ReW P w0 w bw tx inp cn (.ok (if u=v then .i 1 else .i 0) l s)):=by
 by_cases hq:xO u=xO v
 ·rw[if_pos (huv.1 hq)];have HC:=hid (fun X (hX:NB w X)=>iO true X);have HG:=hid h;clear huv;clear h;unfold aG;rw[hq]
  go_in
  go_wp2_with fail;refine(HC.out _ dY).mono ?_;rintro en w1 ⟨rfl,a0⟩;have HF:=hid (fun a b=>HG.out.fin0 dY a0 (r:=w.heap.size+1+1+1) (by omega) ⟨0,0,aq (by simp) _⟩ a b);have a1:=(HF.out 0 0).1;obtain⟨K9,N9,r0,r1,f0,f1,a2⟩:=a1.parts;simp only[aG];clear HC a0;go_wp2_with fail;exact cV Tryz.results197 rfl rfl rfl (a1.put _ _) ⟨(HF.out _ _).2.1,_,_,_,_,_,rfl,(HF.out _ _).2.2⟩
 ·rw[if_neg (fun e=>hq (huv.2 e))];have a3:(xO u==xO v)=false:=by simpa using hq
  have HC:=hid (fun X (hX:NB w X)=>iO false X);have HG:=hid h;clear huv;clear h;unfold aG
  go_in
  go_wp2_with fail;refine(HC.out _ dY).mono ?_;rintro en w1 ⟨rfl,a0⟩;have HF:=hid (fun a b=>HG.out.fin0 dY a0 (r:=w.heap.size+1+1+1) (by omega) ⟨0,0,aq (by simp) _⟩ a b);have a1:=(HF.out 0 0).1;obtain⟨K9,N9,r0,r1,f0,f1,a2⟩:=a1.parts;simp only[aG];clear HC a0;go_wp2_with fail;exact cV Tryz.results197 rfl rfl rfl (a1.put _ _) ⟨(HF.out _ _).2.1,_,_,_,_,_,rfl,(HF.out _ _).2.2⟩
theorem AA (h:WdQ P w0 w bw tx inp s vo vb gs fv cn sn) (h4:s.heap.length≤4000) (cs:List bv) (hn:cs.length≤100) (hT:TxC w0 tx cs) (o:Ob) (ts:List UInt8) (u v:V) (pl n pn pc:Nat) (c:UInt8) (pa:Option Addr) (hc:c.toNat=65+o.cls) (hts:bH cs c=ts) (ht5:ts.length≤100) (hof:o.fs=ts.map cB):
  Calls Tryz.prog 197 #[.pointer (some ⟨bw,0,none⟩),.agg #[.int .i64 pl,.int .u8 110,.int .u8 c.toNat,.int .i64 n,.slice pa pn pc],aG u,aG v] w (ReW P w0 w bw tx inp cn (.ok (.o s.heap.length) l {s with heap:=s.heap++ [o]})):=by
 have HC:=hid (fun X (hX:NB w X)=>oe (h.grown hX) h4 cs hn hT c o hc ts hts ht5 hof);have h0:=h.old.size;clear h hc hts hof;unfold aG
 go_in
 go_wp2_with fail;refine(HC.out _ dY).mono ?_;rintro en w1 ⟨a0,rfl,a7,a4,a3,a6,a2⟩;have HF:=hid (fun a b=>WdQ.fin dY h0 a2 a0 (r:=w.heap.size+1+1+1) (by omega) ⟨0,0,aq (by simp) _⟩ a b);have a1:=(HF.out 0 0).1;obtain⟨K9,N9,r0,r1,f0,f1,a5⟩:=a1.parts;simp only[aG];clear HC a0 a2;go_wp2_with fail;exact cV Tryz.results197 rfl rfl rfl (a1.put _ _) ⟨(HF.out _ _).2.1,_,_,_,_,_,rfl,(HF.out _ _).2.2⟩
theorem yF (h:WdQ P w0 w bw tx inp s vo vb gs fv cn sn) (h4:s.heap.length≤4000) (v:V) (pl n pn pc:Nat) (c:UInt8) (pa:Option Addr):
  Calls Tryz.prog 197 #[.pointer (some ⟨bw,0,none⟩),.agg #[.int .i64 pl,.int .u8 103,.int .u8 c.toNat,.int .i64 n,.slice pa pn pc],aG .z,aG v] w (ReW P w0 w bw tx inp cn (.bad 6 s.out)):=by
 have HC:=hid (fun X (hX:NB w X)=>yD (h.grown hX) h4 n);have HG:=hid h;clear h;unfold aG
 go_in
 go_wp2_with fail;refine(HC.out _ dY).mono ?_;rintro en w1 ⟨a0,rfl⟩;have HF:=hid (fun a b=>HG.out.fin0 dY a0 (r:=w.heap.size+1+1+1) (by omega) ⟨0,0,aq (by simp) _⟩ a b);have a1:=(HF.out 0 0).1;obtain⟨K9,N9,r0,r1,f0,f1,a2⟩:=a1.parts;simp only[aG];clear HC a0;go_wp2_with fail;exact cV Tryz.results197 rfl rfl rfl (a1.put _ _) ⟨(HF.out _ _).2.1,_,_,_,_,_,rfl,s,rfl,(HF.out _ _).2.2⟩
theorem yG (h:WdQ P w0 w bw tx inp s vo vb gs fv cn sn) (h4:s.heap.length≤4000) {k:Nat} {o:Ob} (hk:s.heap[k]?=some o) (q:V) (v:V) (pl n pn pc:Nat) (c:UInt8) (pa:Option Addr) (hq:o.fs[n]?=some q):
  Calls Tryz.prog 197 #[.pointer (some ⟨bw,0,none⟩),.agg #[.int .i64 pl,.int .u8 103,.int .u8 c.toNat,.int .i64 n,.slice pa pn pc],aG (.o k),aG v] w (ReW P w0 w bw tx inp cn (.ok q l s)):=by
 have HC:=hid (fun X (hX:NB w X)=>yE (h.grown hX) h4 hk n q hq);have HG:=hid h;clear hk hq;clear h;unfold aG
 go_in
 go_wp2_with fail;refine(HC.out _ dY).mono ?_;rintro en w1 ⟨a0,rfl⟩;have HF:=hid (fun a b=>HG.out.fin0 dY a0 (r:=w.heap.size+1+1+1) (by omega) ⟨0,0,aq (by simp) _⟩ a b);have a1:=(HF.out 0 0).1;obtain⟨K9,N9,r0,r1,f0,f1,a2⟩:=a1.parts;simp only[aG];clear HC a0;go_wp2_with fail;exact cV Tryz.results197 rfl rfl rfl (a1.put _ _) ⟨(HF.out _ _).2.1,_,_,_,_,_,rfl,(HF.out _ _).2.2⟩
theorem yH (h:WdQ P w0 w bw tx inp s vo vb gs fv cn sn) (h4:s.heap.length≤4000) (v:V) (pl n pn pc:Nat) (c:UInt8) (pa:Option Addr):
  Calls Tryz.prog 197 #[.pointer (some ⟨bw,0,none⟩),.agg #[.int .i64 pl,.int .u8 112,.int .u8 c.toNat,.int .i64 n,.slice pa pn pc],aG .z,aG v] w (ReW P w0 w bw tx inp cn (.bad 6 s.out)):=by
 have HC:=hid (fun X (hX:NB w X)=>sA (h.grown hX) h4 n v);have HG:=hid h;clear h;unfold aG
 go_in
 go_wp2_with fail;refine(HC.out _ dY).mono ?_;rintro en w1 ⟨a0,rfl⟩;have HF:=hid (fun a b=>HG.out.fin0 dY a0 (r:=w.heap.size+1+1+1) (by omega) ⟨0,0,aq (by simp) _⟩ a b);have a1:=(HF.out 0 0).1;obtain⟨K9,N9,r0,r1,f0,f1,a2⟩:=a1.parts;simp only[aG];clear HC a0;go_wp2_with fail;exact cV Tryz.results197 rfl rfl rfl (a1.put _ _) ⟨(HF.out _ _).2.1,_,_,_,_,_,rfl,s,rfl,(HF.out _ _).2.2⟩
theorem yI (h:WdQ P w0 w bw tx inp s vo vb gs fv cn sn) (h4:s.heap.length≤4000) {k:Nat} {o:Ob} (hk:s.heap[k]?=some o) (v:V) (pl n pn pc:Nat) (c:UInt8) (pa:Option Addr) (hq:n<o.fs.length):
  Calls Tryz.prog 197 #[.pointer (some ⟨bw,0,none⟩),.agg #[.int .i64 pl,.int .u8 112,.int .u8 c.toNat,.int .i64 n,.slice pa pn pc],aG (.o k),aG v] w (ReW P w0 w bw tx inp cn (.ok (.i 0) l (s.put k n v))):=by
 have HC:=hid (fun X (hX:NB w X)=>sB (h.grown hX) h4 hk n v hq);have h0:=h.old.size;clear h hk hq;unfold aG
 go_in
 go_wp2_with fail;refine(HC.out _ dY).mono ?_;rintro en w1 ⟨a0,rfl,a2⟩;have HF:=hid (fun a b=>WdQ.fin dY h0 a2 a0 (r:=w.heap.size+1+1+1) (by omega) ⟨0,0,aq (by simp) _⟩ a b);have a1:=(HF.out 0 0).1;obtain⟨K9,N9,r0,r1,f0,f1,a3⟩:=a1.parts;simp only[aG];clear HC a0 a2;go_wp2_with fail;exact cV Tryz.results197 rfl rfl rfl (a1.put _ _) ⟨(HF.out _ _).2.1,_,_,_,_,_,rfl,(HF.out _ _).2.2⟩
theorem yJ (h:WdQ P w0 w bw tx inp s vo vb gs fv cn sn) (h4:s.heap.length≤4000) (v:V) (pl n pn pc:Nat) (c:UInt8) (pa:Option Addr):
  Calls Tryz.prog 197 #[.pointer (some ⟨bw,0,none⟩),.agg #[.int .i64 pl,.int .u8 120,.int .u8 c.toNat,.int .i64 n,.slice pa pn pc],aG .z,aG v] w (ReW P w0 w bw tx inp cn (.ok .z l s)):=by
 have HC:=hid (fun X (hX:NB w X)=>zZ (h.grown hX) h4 c);have HG:=hid h;clear h;unfold aG
 go_in
 go_wp2_with fail;refine(HC.out _ dY).mono ?_;rintro en w1 ⟨a0,rfl⟩;have HF:=hid (fun a b=>HG.out.fin0 dY a0 (r:=w.heap.size+1+1+1) (by omega) ⟨0,0,aq (by simp) _⟩ a b);have a1:=(HF.out 0 0).1;obtain⟨K9,N9,r0,r1,f0,f1,a2⟩:=a1.parts;simp only[aG];clear HC a0;go_wp2_with fail;exact cV Tryz.results197 rfl rfl rfl (a1.put _ _) ⟨(HF.out _ _).2.1,_,_,_,_,_,rfl,(HF.out _ _).2.2⟩
theorem yK (h:WdQ P w0 w bw tx inp s vo vb gs fv cn sn) (h4:s.heap.length≤4000) {k:Nat} {o:Ob} (hk:s.heap[k]?=some o) (cs:List bv) (hn:cs.length≤100) (hT:TxC w0 tx cs) (a:UInt8) (ha:a.toNat=65+o.cls) (v:V) (pl n pn pc:Nat) (c:UInt8) (pa:Option Addr):
  Calls Tryz.prog 197 #[.pointer (some ⟨bw,0,none⟩),.agg #[.int .i64 pl,.int .u8 120,.int .u8 c.toNat,.int .i64 n,.slice pa pn pc],aG (.o k),aG v] w (ReW P w0 w bw tx inp cn (if df cs c cs.length a=true then .ok (.o k) l s else .bad 8 s.out)):=by
 have HC:=hid (fun X (hX:NB w X)=>z6 (h.grown hX) h4 hk cs hn hT a c ha);have HG:=hid h;obtain⟨r,hr⟩: ∃r,df cs c cs.length a=r:=⟨_,rfl⟩;rw[hr]at HC⊢;clear h hr ha hk
 cases r
 ·simp only[Bool.false_eq_true,if_false]at HC⊢;unfold aG
  go_in
  go_wp2_with fail;refine(HC.out _ dY).mono ?_;rintro en w1 ⟨a0,rfl⟩;have HF:=hid (fun a b=>HG.out.fin0 dY a0 (r:=w.heap.size+1+1+1) (by omega) ⟨0,0,aq (by simp) _⟩ a b);have a1:=(HF.out 0 0).1;obtain⟨K9,N9,r0,r1,f0,f1,a2⟩:=a1.parts;simp only[aG];clear HC a0;go_wp2_with fail;exact cV Tryz.results197 rfl rfl rfl (a1.put _ _) ⟨(HF.out _ _).2.1,_,_,_,_,_,rfl,s,rfl,(HF.out _ _).2.2⟩
 ·simp only[if_true]at HC⊢;unfold aG
  go_in
  go_wp2_with fail;refine(HC.out _ dY).mono ?_;rintro en w1 ⟨a0,rfl⟩;have HF:=hid (fun a b=>HG.out.fin0 dY a0 (r:=w.heap.size+1+1+1) (by omega) ⟨0,0,aq (by simp) _⟩ a b);have a1:=(HF.out 0 0).1;obtain⟨K9,N9,r0,r1,f0,f1,a2⟩:=a1.parts;simp only[aG];clear HC a0;go_wp2_with fail;exact cV Tryz.results197 rfl rfl rfl (a1.put _ _) ⟨(HF.out _ _).2.1,_,_,_,_,_,rfl,(HF.out _ _).2.2⟩
theorem AB (h:WdQ P w0 w bw tx inp s vo vb gs fv cn sn) (op:Nat) (hop:op=43∨op=45∨op=42∨op=60∨op=61∨op=47) (a b:Int) (a1: -2147483648≤a) (a2:a<2147483648) (b1: -2147483648≤b) (b2:b<2147483648) (pl n pn pc:Nat) (c:UInt8) (pa:Option Addr):
  Calls Tryz.prog 197 #[.pointer (some ⟨bw,0,none⟩),.agg #[.int .i64 pl,.int .u8 op,.int .u8 c.toNat,.int .i64 n,.slice pa pn pc],aG (.i a),aG (.i b)] w (ReW P w0 w bw tx inp cn (d8 op a b l s)):=by
 have HC:=hid (fun X=>wG op hop a b a1 a2 b1 b2 X);have HG:=hid h
 obtain⟨K,e,hK,hR⟩: ∃(K e:Int),kg op a b= .tuple #[.agg #[.int .i32 K,.int .i64 0],.int .i64 e]∧((∃m,m=K∧e=0∧d8 op a b l s= .ok (.i m) l s)∨(K=0∧e=bK 7∧d8 op a b l s= .bad 7 s.out)):=by
  unfold kg d8
  by_cases h47:op=47
  ·by_cases hb:b=0
   ·subst h47 hb;exact⟨0,3,rfl,Or.inr ⟨rfl,rfl,rfl⟩⟩
   ·simp only[h47,hb,and_false,if_true,if_false];exact⟨_,0,rfl,Or.inl ⟨_,rfl,rfl,rfl⟩⟩
  ·simp only[h47,false_and,if_false];exact⟨_,0,rfl,Or.inl ⟨_,rfl,rfl,rfl⟩⟩
 rw[hK]at HC;obtain⟨R,a4⟩: ∃R,d8 op a b l s=R:=⟨_,rfl⟩;rw[a4]at hR⊢;have HR:=hid hR;clear h hK hR a4;rcases hop with rfl|rfl|rfl|rfl|rfl|rfl
 all_goals
  unfold aG
  go_in
  go_wp2_with fail;refine(HC.out _).mono ?_;rintro en w1 ⟨rfl,a3⟩;have HF:=hid (fun a b=>HG.out.fin0 dY a3 (r:=w.heap.size+1+1+1) (by omega) ⟨0,0,aq (by simp) _⟩ a b);have a0:=(HF.out 0 0).1;obtain⟨K9,N9,r0,r1,f0,f1,a5⟩:=a0.parts;simp only[aG];clear HC a3;go_wp2_with fail;rcases HR.out with⟨m,rfl,rfl,rfl⟩ | ⟨rfl,rfl,rfl⟩
  ·exact cV Tryz.results197 rfl rfl rfl (a0.put _ _) ⟨(HF.out _ _).2.1,_,_,_,_,_,rfl,(HF.out _ _).2.2⟩
  ·exact cV Tryz.results197 rfl rfl rfl (a0.put _ _) ⟨(HF.out _ _).2.1,_,_,_,_,_,rfl,s,rfl,(HF.out _ _).2.2⟩
theorem pA (h:WdQ P w0 w bw tx inp s vo vb gs fv cn sn) (h4:s.heap.length≤4000) (m d:Nat):
  Calls Tryz.prog 193 #[.pointer (some ⟨bw,0,none⟩),.agg #[.int .i32 0,.int .i64 0],.int .i64 m,.int .i64 d] w fun en w'=>But (fun _=>False) w w'∧en= .returned (.tuple #[.int .i64 (-1),.int .i64 2]):=by
 have HO:=hid (fun X (hX:But (fun _=>False) w X)=>yB (h.new hX) h4);clear h
 go_in
 go_wp2_with fail;refine(HO.out _ (But.alloc _ _ _)).mono ?_;rintro en w1 ⟨a0,rfl⟩;go_wp2_with fail;exact fh Tryz.results193 rfl rfl rfl ⟨(But.alloc _ _ _).trans a0,rfl⟩
theorem pB (h:WdQ P w0 w bw tx inp s vo vb gs fv cn sn) (h4:s.heap.length≤4000) {k:Nat} {o:Ob} (hk:s.heap[k]?=some o) (cs:List bv) (bs:List bu) (hn:cs.length≤100) (hnb:bs.length≤100) (hT:TxC w0 tx cs) (hTb:TxB w0 tx bs) (a:UInt8) (ha:a.toNat=65+o.cls) (m d:Nat):
  Calls Tryz.prog 193 #[.pointer (some ⟨bw,0,none⟩),.agg #[.int .i32 0,.int .i64 ((k:Int)+1)],.int .i64 m,.int .i64 d] w fun en w'=>But (fun _=>False) w w'∧en= .returned (if 12≤d then .tuple #[.int .i64 (-1),.int .i64 6]else .tuple #[.int .i64 (eG cs bs m cs.length a),.int .i64 0]):=by
 have HO:=hid (fun X (hX:But (fun _=>False) w X)=>yC (h.new hX) h4 hk);rw[←ha]at HO;have HB:=hid (fun X (hX:But (fun _=>False) w X)=>l8 tx cs bs a m X hn hnb (hT.but (h.old.trans hX)) (hTb.but (h.old.trans hX)));have c0:=h.wd.c0;have a2:=h.wd.lt;have a5:(a.toNat:Int)≠45:=by omega
 obtain⟨r,hr⟩: ∃r,eG cs bs m cs.length a=r:=⟨_,rfl⟩;rw[hr]at HB⊢;clear h hk ha hr
 by_cases hd:12≤d
 ·rw[if_pos hd];have a4:12≤(d:Int):=by omega
  go_in
  go_wp2_with fail;refine(HO.out _ (But.alloc _ _ _)).mono ?_;rintro en w1 ⟨a0,rfl⟩;go_wp2_with fail;exact fh Tryz.results193 rfl rfl rfl ⟨(But.alloc _ _ _).trans a0,rfl⟩
 ·rw[if_neg hd];have a4: ¬12≤(d:Int):=by omega
  clear hd
  go_in
  go_wp2_with fail;refine(HO.out _ (But.alloc _ _ _)).mono ?_;rintro en w1 ⟨a0,rfl⟩;have a1:But (fun _=>False) w w1:=(But.alloc _ _ _).trans a0;have d0:=a1.kc c0 a2;have a6:=Nat.lt_of_lt_of_le a2 a1.size;clear HO a0 c0;go_wp2_with fail;refine(HB.out _ a1).mono ?_;rintro en w2 ⟨rfl,a3⟩;go_wp2_with fail;exact fh Tryz.results193 rfl rfl rfl ⟨a1.trans a3,rfl⟩
end
end
end Go.Proofs.YtpfkkmacakjmbaaGreatDoor
