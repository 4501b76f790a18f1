import Derived.Test.YtpfkkmacakjmbaaGreatDoorP21
import Derived.Test.YtpfkkmacakjmbaaGreatDoorP17
set_option maxRecDepth 100000
set_option maxHeartbeats 6400000
set_option linter.unusedSimpArgs false
set_option linter.unusedVariables false
namespace Go.Proofs.YtpfkkmacakjmbaaGreatDoor
section
open Go Go.RowKit Sp
attribute [local go_sem ↓] Go.wp_at_zero Go.wp_at_succ
section
variable {P:Nat→Prop} {w0 w w':World} {bw tx:Nat} {inp:ByteArray} {s:Ev} {vo vb:Value} {gs:List Nat} {fv:List Value} {cn:Int} {sn:Nat→Int} {l:List V}
/--The object that a reference names. -/
theorem ip (h:WdQ P w0 w bw tx inp s vo vb gs fv cn sn) (u:V) (hu:(∃n,u= .i n)∨u= .z∨ ∃k,u= .o k∧k<s.heap.length) (h4:s.heap.length≤4000):
  Calls Tryz.prog 245 #[.pointer (some ⟨bw,0,none⟩),aG u] w fun en w'=>But (fun _=>False) w w'∧en= .returned (.pointer (match u with| .o k=>(gs[k]?).map (fun g=>⟨g,0,none⟩) |_=>none)):=by
 unfold aG;have a1:=h.wd.lt
 have hz: ∀(hx:xO u=0) (hm: ∀k,u≠ .o k),Calls Tryz.prog 245 #[.pointer (some ⟨bw,0,none⟩),.agg #[.int .i32 (xN u),.int .i64 (xO u)]] w fun en w'=>But (fun _=>False) w w'∧en= .returned (.pointer none):=fun hx hm=>by
  rw[hx];clear hx hm hu h
  go_in
  go_wp2_with fail
  go_quiet (fail)
  go_wp2_with fail;go_ret;exact⟨(But.alloc _ _ _).trans (But.drewN _ _ _),rfl⟩
 rcases hu with⟨n,rfl⟩ |rfl| ⟨k,rfl,hk⟩
 ·exact hz rfl (fun k h=>by cases h)
 ·exact hz rfl (fun k h=>by cases h)
 ·clear hz;obtain⟨o,g,v,h1,h2,h3,a6,h5⟩:=h.obj hk;simp only[h2,Option.map_some,xN,xO];have c4:=h.wd.c4;obtain⟨ab,capb,rfl⟩:=aw h.ob;obtain⟨gb,rfl,a2,a7,a0⟩:=aI h.ob (by omega);have q0:w.cell? ⟨gb,k,none⟩=some (.pointer (some ⟨g,0,none⟩)):=a0 _ _ (by simp[ep,h2]);have a3: ¬((k:Int)+1≤0):=by omega
  have a4: ¬((s.heap.length:Int)<(k:Int)+1):=by omega
  have a8:(k:Int)<(s.heap.length:Int):=by omega
  clear a0 h1 h2 h3 h5;generalize s.heap.length=nh at*;have d1:decide ((k:Int)+1≤0)=false:=decide_eq_false a3;have d2:decide ((nh:Int)<(k:Int)+1)=false:=decide_eq_false a4;have e4: ∀ob,(w.alloc ob).cell? ⟨bw,4,none⟩=some (.slice (some ⟨gb,0,none⟩) nh capb):=fun ob=>((But.alloc (fun _=>False) w ob).cell (p:=⟨bw,4,none⟩) a1 (fun h=>h)).trans c4
  go_in
  go_wp2_with fail
  go_quiet (fail)
  go_wp2_with fail;have e5: ∀ob,(w.alloc ob).cell? ⟨gb,k,none⟩=some (.pointer (some ⟨g,0,none⟩)):=fun ob=>((But.alloc (fun _=>False) w ob).cell (p:=⟨gb,k,none⟩) a2 (fun h=>h)).trans q0
  have b0:=dE (k:Int) (by omega) (by omega);have a5:=dE ((k:Int)+1-1) (by omega) (by omega)
  go_quiet (fail)
  go_wp2_with fail;go_ret;exact⟨((But.alloc _ _ _).trans (But.drewN _ _ _)).trans (But.drewN _ _ _),rfl⟩
theorem gY (h:WdQ P w0 w bw tx inp s vo vb gs fv cn sn) (h4:s.heap.length≤4000):
  Calls Tryz.prog 245 #[.pointer (some ⟨bw,0,none⟩),.agg #[.int .i32 0,.int .i64 0]] w fun en w'=>But (fun _=>False) w w'∧en= .returned (.pointer none):=ip h .z (Or.inr (Or.inl rfl)) h4
theorem gZ (h:WdQ P w0 w bw tx inp s vo vb gs fv cn sn) (h4:s.heap.length≤4000) {k g:Nat} (hk:k<s.heap.length) (hg:gs[k]?=some g):
  Calls Tryz.prog 245 #[.pointer (some ⟨bw,0,none⟩),.agg #[.int .i32 0,.int .i64 ((k:Int)+1)]] w fun en w'=>But (fun _=>False) w w'∧en= .returned (.pointer (some ⟨g,0,none⟩)):=by
 have:=ip h (.o k) (Or.inr (Or.inr ⟨k,rfl,hk⟩)) h4;simp only[hg,Option.map_some]at this;exact this
theorem zk (h:WdQ P w0 w bw tx inp s vo vb gs fv cn sn) (h4:s.heap.length≤4000):
  Calls Tryz.prog 228 #[.pointer (some ⟨bw,0,none⟩),.agg #[.int .i32 0,.int .i64 0]] w fun en w'=>But (fun _=>False) w w'∧en= .returned (.int .u8 45):=by
 have HO:=hid (fun X (hX:But (fun _=>False) w X)=>gY (h.new hX) h4);clear h
 go_in
 go_wp2_with fail;refine(HO.out _ (But.alloc _ _ _)).mono ?_;rintro en w1 ⟨a0,rfl⟩;go_wp2_with fail;go_ret;exact⟨(But.alloc _ _ _).trans a0,rfl⟩
theorem zl (h:WdQ P w0 w bw tx inp s vo vb gs fv cn sn) (h4:s.heap.length≤4000) {k:Nat} {o:Ob} (hk:s.heap[k]?=some o):
  Calls Tryz.prog 228 #[.pointer (some ⟨bw,0,none⟩),.agg #[.int .i32 0,.int .i64 ((k:Int)+1)]] w fun en w'=>But (fun _=>False) w w'∧en= .returned (.int .u8 (65+o.cls:Nat)):=by
 have a3:=(List.getElem?_eq_some_iff.1 hk).1;obtain⟨o',g,v,h1,h2,h3,a0,h5⟩:=h.obj a3;rw[hk]at h1
 cases h1
 have HO:=hid (fun X (hX:But (fun _=>False) w X)=>gZ (h.new hX) h4 a3 h2);have a4:=ae a0;clear h hk h2 h3 h5
 go_in
 go_wp2_with fail;refine(HO.out _ (But.alloc _ _ _)).mono ?_;rintro en w1 ⟨a1,rfl⟩;have a2:But (fun _=>False) w w1:=(But.alloc _ _ _).trans a1;have hx:=(a2.block g a4 (fun h=>h)).trans a0;have x0:=ce0 hx;clear HO a1 a0;go_wp2_with fail;go_ret;exact⟨a2,rfl⟩
theorem zm (h:WdQ P w0 w bw tx inp s vo vb gs fv cn sn) (h4:s.heap.length≤4000) (j:Nat):
  Calls Tryz.prog 237 #[.pointer (some ⟨bw,0,none⟩),.agg #[.int .i32 0,.int .i64 0],.int .i64 j] w fun en w'=>But (fun _=>False) w w'∧en= .returned (.tuple #[.agg #[.int .i32 0,.int .i64 0],.int .i64 2]):=by
 have HO:=hid (fun X (hX:But (fun _=>False) w X)=>gY (h.new hX) h4);clear h
 go_in
 go_wp2_with fail;refine(HO.out _ ((But.alloc _ _ _).trans (But.alloc _ _ _))).mono ?_;rintro en w1 ⟨a0,rfl⟩;have a1:cP w1 (w.heap.size+1):=cP.but ⟨0,0,aq (by simp) _⟩ a0 (fun h=>h);have a2:But (fun _=>False) w w1:=((But.alloc _ _ _).trans (But.alloc _ _ _)).trans a0;obtain⟨K9,N9,r0,r1,f0,f1,a3⟩:=a1.parts;clear a0 HO;go_wp2_with fail;exact cU Tryz.results237 rfl rfl rfl (a1.put _ _) ⟨a2.next (cS _ _ _ _) (fun k hk e=>by have e:k=w.heap.size+1:=e;omega),rfl⟩
theorem zn (h:WdQ P w0 w bw tx inp s vo vb gs fv cn sn) (h4:s.heap.length≤4000) {k:Nat} {o:Ob} (hk:s.heap[k]?=some o) (j:Nat) (u:V) (hu:o.fs[j]?=some u):
  Calls Tryz.prog 237 #[.pointer (some ⟨bw,0,none⟩),.agg #[.int .i32 0,.int .i64 ((k:Int)+1)],.int .i64 j] w fun en w'=>But (fun _=>False) w w'∧en= .returned (.tuple #[aG u,.int .i64 0]):=by
 have a5:=(List.getElem?_eq_some_iff.1 hk).1;have b3:=(List.getElem?_eq_some_iff.1 hu).1;obtain⟨o',g,v,h1,h2,h3,a2,h5⟩:=h.obj a5;rw[hk]at h1
 cases h1
 have HO:=hid (fun X (hX:But (fun _=>False) w X)=>gZ (h.new hX) h4 a5 h2);have a8:=ae a2;obtain⟨af,cf,rfl⟩:=aw h5;obtain⟨gf,rfl,a4,a7,a0⟩:=aI h5 (by omega);have q0:w.cell? ⟨gf,j*2,none⟩=some (.int .i32 (xN u)):=a0 _ _ (bq (k:=0) hu (by omega));have q1:w.cell? ⟨gf,j*2+1,none⟩=some (.int .i64 (xO u)):=a0 _ _ (bq (k:=1) hu (by omega));have b0: ¬((j:Int)<0):=by omega
 have b1: ¬((o.fs.length:Int)≤(j:Int)):=by omega
 have b2:(j:Int)<(o.fs.length:Int):=by omega
 clear h hk h2 h3 h5 hu a0;unfold aG;generalize o.fs.length=nf at*
 go_in
 go_wp2_with fail;refine(HO.out _ ((But.alloc _ _ _).trans (But.alloc _ _ _))).mono ?_;rintro en w1 ⟨a3,rfl⟩;have a6:cP w1 (w.heap.size+1):=cP.but ⟨0,0,aq (by simp) _⟩ a3 (fun h=>h);have a1:But (fun _=>False) w w1:=((But.alloc _ _ _).trans (But.alloc _ _ _)).trans a3;have hx:=(a1.block g a8 (fun h=>h)).trans a2;have x1:=ce1 hx;have p0:=a1.kc q0 a4;have p1:=a1.kc q1 a4;obtain⟨K9,N9,r0,r1,f0,f1,b4⟩:=a6.parts;clear a3 HO q0 q1 a2 hx;go_wp2_with fail;exact cU Tryz.results237 rfl rfl rfl (a6.put _ _) ⟨a1.next (cS _ _ _ _) (fun k hk e=>by have e:k=w.heap.size+1:=e;omega),rfl⟩
theorem sS (h:WdQ P w0 w bw tx inp s vo vb gs fv cn sn) (h4:s.heap.length≤4000) (j:Nat) (u:V):
  Calls Tryz.prog 238 #[.pointer (some ⟨bw,0,none⟩),.agg #[.int .i32 0,.int .i64 0],.int .i64 j,aG u] w fun en w'=>But (fun _=>False) w w'∧en= .returned (.int .i64 2):=by
 have HO:=hid (fun X (hX:But (fun _=>False) w X)=>gY (h.new hX) h4);clear h;unfold aG
 go_in
 go_wp2_with fail;refine(HO.out _ ((But.alloc _ _ _).trans (But.alloc _ _ _))).mono ?_;rintro en w1 ⟨a0,rfl⟩;go_wp2_with fail;go_ret;exact⟨((But.alloc _ _ _).trans (But.alloc _ _ _)).trans a0,rfl⟩
theorem sT (h:WdQ P w0 w bw tx inp s vo vb gs fv cn sn) (h4:s.heap.length≤4000) {k:Nat} {o:Ob} (hk:s.heap[k]?=some o) (j:Nat) (u:V) (hj:j<o.fs.length):
  Calls Tryz.prog 238 #[.pointer (some ⟨bw,0,none⟩),.agg #[.int .i32 0,.int .i64 ((k:Int)+1)],.int .i64 j,aG u] w fun en w'=>But (FrQ P w0) w w'∧en= .returned (.int .i64 0)∧WdQ P w0 w' bw tx inp (s.put k j u) vo vb gs fv cn sn:=by
 have b2:=(List.getElem?_eq_some_iff.1 hk).1;obtain⟨u',hu⟩: ∃u',o.fs[j]?=some u':=⟨_,List.getElem?_eq_getElem hj⟩;obtain⟨o',g,v,h1,h2,h3,a7,h5⟩:=h.obj b2;rw[hk]at h1
 cases h1
 have HO:=hid (fun X (hX:But (fun _=>False) w X)=>gZ (h.new hX) h4 b2 h2);have b4:=ae a7;obtain⟨af,cf,rfl⟩:=aw h5;obtain⟨gf,rfl,a5,b3,a0⟩:=aI h5 (by omega);have q0:w.cell? ⟨gf,j*2,none⟩=some (.int .i32 (xN u')):=a0 _ _ (bq (k:=0) hu (by omega));have q1:w.cell? ⟨gf,j*2+1,none⟩=some (.int .i64 (xO u')):=a0 _ _ (bq (k:=1) hu (by omega));obtain⟨cur,a4⟩:=cD h5 (g:=gf) rfl;have z0:=frozen_of_row w gf (j*2) _ _ a4;have z1:=frozen_of_row w gf (j*2+1) _ _ a4;have b1:FrQ P w0 gf:=h.k8 (List.mem_of_getElem? h3) (g:=gf) rfl;have HS:=hid (fun X (hX:But (fun _=>False) w X)=>(h.new hX).setF hk h2 h3 (g:=gf) rfl j u)
 have b5:0≤(j:Int):=by omega
 have b6:(j:Int)<(o.fs.length:Int):=by omega
 clear h hk h2 h3 h5 hu a0 a4;unfold aG;generalize o.fs.length=nf at*
 go_in
 go_wp2_with fail;refine(HO.out _ ((But.alloc _ _ _).trans (But.alloc _ _ _))).mono ?_;rintro en w1 ⟨a8,rfl⟩;have a2:But (fun _=>False) w w1:=((But.alloc _ _ _).trans (But.alloc _ _ _)).trans a8;have a6:=(a8.block (w.heap.size+1) (by simp) (fun h=>h)).trans (aq (by simp) (.cells #[.int .i32 (xN u),.int .i64 (xO u)] 168));have hx:=(a2.block g b4 (fun h=>h)).trans a7;have x1:=ce1 hx;have v0:=ce0 a6;have v1:=ce1 a6;have m1:=ae a6;have m2:=ae hx;have a1:=Nat.lt_of_lt_of_le a5 a2.size;have p0:=a2.kc q0 a5;have p1:=a2.kc q1 a5;have p2:=a2.kz z0 a5;have p3:=a2.kz z1 a5;clear a8 HO q0 q1 z0 z1 a7 hx a6
 go_wp2_with fail;have HP:=hid (And.intro p0 (And.intro p1 (And.intro p2 p3)));clear p0 p1 p2 p3;have a3:But (fun _=>False) w1 w1.drew:=But.drew _ _;refine aD (But (fun _=>False) w1) 7 (by kernel_rfl) ?_
 iterate 7 (refine aJ (v:=?_) rfl (by kernel_rfl) (fun _ _ _ h=>h) rfl a3 ?_ ?_;rotate_left;(focus (intro wS h;have q0:=(h.kc x1 m2);have q1:=(h.kc v0 m1);have q2:=(h.kc v1 m1);clear h;go_simp;try rfl));dsimp only[Act.put];try simp only[aL])
 obtain⟨p0,p1,p2,p3⟩:=HP.out;have t0:=a3.kc p0 a1;have t1:=a3.kc p1 a1;have t2:=a3.kz p2 a1;have t3:=a3.kz p3 a1;have b0:=a2.trans a3;clear x1 v0 v1 a3 HP p0 p1 p2 p3;generalize w1.drew=wd at*;refine jX rfl (by kernel_rfl) ?_;go_wp2_with fail;go_ret;exact⟨(b0.mono (fun _ _ h=>h.elim)).trans ((But.setCell wd (a:=⟨gf,j*2,none⟩) (F:=FrQ P w0) b1 _).trans (But.setCell _ (a:=⟨gf,j*2+1,none⟩) b1 _)),rfl,HS.out wd b0⟩
theorem AG (h:WdQ P w0 w bw tx inp s vo vb gs fv cn sn) (h4:s.heap.length≤4000) (c:UInt8):
  Calls Tryz.prog 239 #[.pointer (some ⟨bw,0,none⟩),.agg #[.int .i32 0,.int .i64 0],.int .u8 c.toNat] w fun en w'=>But (fun _=>False) w w'∧en= .returned (.tuple #[.agg #[.int .i32 0,.int .i64 0],.int .i64 0]):=by
 have HO:=hid (fun X (hX:But (fun _=>False) w X)=>gY (h.new hX) h4);clear h
 go_in
 go_wp2_with fail;refine(HO.out _ ((But.alloc _ _ _).trans (But.alloc _ _ _))).mono ?_;rintro en w1 ⟨a0,rfl⟩;have a1:=(a0.block w.heap.size (by simp;omega) (fun h=>h)).trans (((But.alloc (fun _=>False) _ _).block _ (by simp) (fun h=>h)).trans (heap_alloc_new w (.cells #[.int .i32 0,.int .i64 0] 168)));have v0:=ce0 a1;have v1:=ce1 a1;have a2:cP w1 (w.heap.size+1):=cP.but ⟨0,0,aq (by simp) _⟩ a0 (fun h=>h);have a3:But (fun _=>False) w w1:=((But.alloc _ _ _).trans (But.alloc _ _ _)).trans a0;obtain⟨K9,N9,r0,r1,f0,f1,a5⟩:=a2.parts;have a4:=ae a1;clear a0 HO a1;go_wp2_with fail
 go_quiet (fail)
 go_wp2_with fail;exact cU Tryz.results239 rfl rfl rfl ((a2.but (But.drewN (fun _=>False) _ _) (fun h=>h)).put _ _) ⟨(a3.trans (But.drewN _ _ _)).next (cS _ _ _ _) (fun k hk e=>by have e:k=w.heap.size+1:=e;omega),rfl⟩
theorem AH (h:WdQ P w0 w bw tx inp s vo vb gs fv cn sn) (h4:s.heap.length≤4000) {k:Nat} {o:Ob} (hk:s.heap[k]?=some o) (cs:List bA) (hn:cs.length≤100) (hT:TxC w0 tx cs) (a c:UInt8) (ha:a.toNat=65+o.cls):
  Calls Tryz.prog 239 #[.pointer (some ⟨bw,0,none⟩),.agg #[.int .i32 0,.int .i64 ((k:Int)+1)],.int .u8 c.toNat] w fun en w'=>But (fun _=>False) w w'∧en= .returned (if dc cs c cs.length a=true then .tuple #[.agg #[.int .i32 0,.int .i64 ((k:Int)+1)],.int .i64 0]else .tuple #[.agg #[.int .i32 0,.int .i64 0],.int .i64 4]):=by
 have a5:=(List.getElem?_eq_some_iff.1 hk).1;obtain⟨o',g,v,h1,h2,h3,a1,h5⟩:=h.obj a5;rw[hk]at h1
 cases h1
 have HO:=hid (fun X (hX:But (fun _=>False) w X)=>gZ (h.new hX) h4 a5 h2);have a7:=ae a1;have a8:=h.wd.lt;have HK:=hid h.wd;have HC:=hid (fun X (hX:But (fun _=>False) w X)=>nK tx cs a c X hn (hT.but (h.old.trans hX)));obtain⟨r,hr⟩: ∃r,dc cs c cs.length a=r:=⟨_,rfl⟩;rw[hr]at HC⊢;rw[←ha]at a1;clear h hk h2 h3 h5 hr ha
 go_in
 go_wp2_with fail;refine(HO.out _ ((But.alloc _ _ _).trans (But.alloc _ _ _))).mono ?_;rintro en w1 ⟨a2,rfl⟩;have a3:=(a2.block w.heap.size (by simp;omega) (fun h=>h)).trans (((But.alloc (fun _=>False) _ _).block _ (by simp) (fun h=>h)).trans (heap_alloc_new w (.cells #[.int .i32 0,.int .i64 ((k:Int)+1)] 168)));have v0:=ce0 a3;have v1:=ce1 a3;have a4:cP w1 (w.heap.size+1):=cP.but ⟨0,0,aq (by simp) _⟩ a2 (fun h=>h);have a0:But (fun _=>False) w w1:=((But.alloc _ _ _).trans (But.alloc _ _ _)).trans a2;have hx:=(a0.block g a7 (fun h=>h)).trans a1;have x0:=ce0 hx;have c0:=(HK.out.but a0 (fun h=>h)).c0
 obtain⟨K9,N9,r0,r1,f0,f1,b1⟩:=a4.parts;have b0:=ae a3;clear a2 HO a3 HK hx a1;have a6:=hid (fun n=>HC.out (w1.drewN n) (a0.trans (But.drewN _ _ _)));clear HC;go_wp2_with fail
 go_quiet (exact Calls.quiet_of_same (a6.out _))
 cases r with
 |true=>
  go_wp2_with fail;exact cU Tryz.results239 rfl rfl rfl ((a4.but (But.drewN (fun _=>False) _ _) (fun h=>h)).put _ _) ⟨(a0.trans (But.drewN _ _ _)).next (cS _ _ _ _) (fun k hk e=>by have e:k=w.heap.size+1:=e;omega),rfl⟩
 |false=>
  go_wp2_with fail;exact cU Tryz.results239 rfl rfl rfl ((a4.but (But.drewN (fun _=>False) _ _) (fun h=>h)).put _ _) ⟨(a0.trans (But.drewN _ _ _)).next (cS _ _ _ _) (fun k hk e=>by have e:k=w.heap.size+1:=e;omega),rfl⟩
theorem WdQ.newOb {w2:World} {gq base:Nat} {vf vb':Value} {o:Ob} (h:WdQ P w0 w bw tx inp s vo vb gs fv cn sn) (ho:XoC w gq (65+o.cls) vf 0) (hf:w.ownsRow base 168 2 vf o.fs.length (au o.fs)) (hb:w0.heap.size≤base)
  (hq:w0.heap.size≤gq∧ ¬P gq∧gq∉gs) (hfn: ∀g,vf.ownBlock=some g→ ¬P g∧ ∀v∈fv,v.ownBlock≠some g) (hB:But (fun k=>vb.ownBlock=some k) w w2) (hown:w2.ownsRow w0.heap.size 315 1 vb' (s.heap.length+1) (ep gs++ [.pointer (some ⟨gq,0,none⟩)])) (hP: ∀g,vb'.ownBlock=some g→ ¬P g):
  WdQ P w0 (w2.setCell ⟨bw,4,none⟩ vb') bw tx inp {s with heap:=s.heap++ [o]} vo vb' (gs++ [gq]) (fv++ [vf]) cn (fun k=>if k=s.heap.length then 0 else sn k):=by
 have hS:But (· =bw) w2 (w2.setCell ⟨bw,4,none⟩ vb'):=But.setB _ _ _ _;have a1:XwC w2 bw tx inp (min s.read inp.size:Nat) vo vb cn:=h.wd.but hB (aC h.ob h.wd (by decide));have row: ∀{v:Value} {t b n z:Nat} {xs:List Value},t≠315→t≠211→w.ownsRow b t z v n xs→(w2.setCell ⟨bw,4,none⟩ vb').ownsRow b t z v n xs:=fun h1 h2 hr=>ag (ag hr hB (fun g hg=>jL hr h.ob h1 hg)) hS (fun g hg e=>aC hr h.wd h2 (e▸hg))
 have blk: ∀{k t:Nat} {c:Array Value} {fr:Nat×Nat},t≠315→t≠211→w.heap[k]?=some (.cells c t fr)→(w2.setCell ⟨bw,4,none⟩ vb').heap[k]?=some (.cells c t fr):=fun h1 h2 hk=>by
  have e1:=(hB.block _ (ae hk) (fun hv=>aC h.ob hk (Ne.symm h1) hv)).trans hk;exact(hS.block _ (ae e1) (bv hk h.wd (Ne.symm h2))).trans e1
 refine⟨(h.old.next hB (fun k hk hv=>by have:=(h.k5 hv).1;omega)).next hS (fun k hk e=>by have e:k=bw:=e;have:=h.k2.1;omega),a1.set4 vb',row (by decide) (by decide) h.out,?_,by simp[h.lg],by simp[h.lf],?_,?_,?_,?_,?_,h.se.1,fun k=> ?_⟩
 ·rw[List.length_append,show ep (gs++ [gq])=ep gs++ [.pointer (some ⟨gq,0,none⟩)]from by simp[ep]];exact ag hown hS (fun g hg e=>aC hown a1 (by decide) (e▸hg))
 ·intro k o' g v hk hg hv;rcases eR hk with⟨h1,h2⟩ | ⟨h1,rfl⟩
  ·rcases eR hg with⟨h3,h4⟩ | ⟨h3,_⟩
   ·rcases eR hv with⟨h5,h6⟩ | ⟨h5,_⟩
    ·obtain⟨x,y⟩:=h.obs k o' g v h2 h4 h6;rw[if_neg (by omega)];exact⟨blk (by decide) (by decide) x,row (by decide) (by decide) y⟩
    ·rw[h.lf]at h5;omega
   ·rw[h.lg]at h3;omega
  ·rcases eR hg with⟨h3,_⟩ | ⟨_,rfl⟩
   ·rw[h.lg]at h3;omega
   ·rcases eR hv with⟨h5,_⟩ | ⟨_,rfl⟩
    ·rw[h.lf]at h5;omega
    ·rw[if_pos h1];exact⟨blk (by decide) (by decide) ho,wN (row (by decide) (by decide) hf) hb⟩
 ·intro j k g hj hk;rcases eR hj with⟨h1,h2⟩ | ⟨h1,rfl⟩
  ·rcases eR hk with⟨h3,h4⟩ | ⟨h3,rfl⟩
   ·exact h.nd j k g h2 h4
   ·exact absurd (List.mem_of_getElem? h2) hq.2.2
  ·rcases eR hk with⟨h3,h4⟩ | ⟨h3,_⟩
   ·exact absurd (List.mem_of_getElem? h4) hq.2.2
   ·omega
 ·intro k hk;rcases hk with rfl|hk|hk|hk| ⟨v,hv,hk⟩
  ·exact h.k2
  ·exact h.k4 hk
  ·exact⟨aA hown k hk,hP k hk⟩
  ·rcases List.mem_append.1 hk with hk|hk
   ·exact h.k7 hk
   ·rw[List.mem_singleton]at hk;subst hk;exact⟨hq.1,hq.2.1⟩
  ·rcases List.mem_append.1 hv with hv|hv
   ·exact h.k8 hv hk
   ·rw[List.mem_singleton]at hv;subst hv;exact⟨Nat.le_trans hb (aA hf k hk),(hfn k hk).1⟩
 ·intro k hk;obtain⟨a,b⟩:=h.pl k hk;have e1:=hB.block k a (fun hv=>(h.k5 hv).2 hk);have e2:=hS.block k (Nat.lt_of_lt_of_le a hB.size) (fun e=>h.k2.2 (e▸hk));refine⟨by rw[bV];exact Nat.lt_of_lt_of_le a hB.size,fun c fz e=> ?_⟩;rw[e2,e1]at e;exact b c fz e
 ·intro j k v v' g hj hk hg a0;rcases eR hj with⟨h1,h2⟩ | ⟨h1,rfl⟩
  ·rcases eR hk with⟨h3,h4⟩ | ⟨h3,rfl⟩
   ·exact h.sf j k v v' g h2 h4 hg a0
   ·exact absurd hg ((hfn g a0).2 v (List.mem_of_getElem? h2))
  ·rcases eR hk with⟨h3,h4⟩ | ⟨h3,rfl⟩
   ·exact absurd a0 ((hfn g hg).2 v' (List.mem_of_getElem? h4))
   ·omega
 ·by_cases e:k=s.heap.length
  ·rw[if_pos e];exact⟨Int.le_refl _,h.se.1⟩
  ·rw[if_neg e];exact h.se.2 k
theorem WdQ.res {X:World} (h:WdQ P w0 w bw tx inp s vo vb gs fv cn sn) (hB:But (fun _=>False) w X) {r:Nat} (hr:w.heap.size≤r) (a b:Value):WdQ P w0 ((X.setCell ⟨r,0,none⟩ a).setCell ⟨r,1,none⟩ b) bw tx inp s vo vb gs fv cn sn:=
 (h.new hB).but (cS X r a b) (fun k e=>by have e:k=r:=e;have:=h.old.size;omega) (fun k hk e=>by have e:k=r:=e;have:=h.lt hk;omega) (fun k hk e=>by have e:k=r:=e;have:=(h.pl k hk).1;omega)
theorem o8 (h:WdQ P w0 w bw tx inp s vo vb gs fv cn sn) (h40:inp.size≤40):
  Calls Tryz.prog 232 #[.pointer (some ⟨bw,0,none⟩)] w fun en w'=>But (FrQ P w0) w w'∧en= .returned (aG (.i (jc inp s.read)))∧WdQ P w0 w' bw tx inp {s with read:=s.read+1} vo vb gs fv cn sn:=by
 unfold aG;simp only[xN,xO];have a2:=h.wd.lt;have c1:=h.wd.c1;have c2:=h.wd.c2;have z2:=h.wd.fz 2
 by_cases hr:s.read<inp.size
 ·have e:min s.read inp.size=s.read:=by omega
  rw[e]at c2;have d1:decide ((s.read:Int)<0)=false:=decide_eq_false (by omega);have d2:decide ((inp.size:Int)≤(s.read:Int))=false:=decide_eq_false (by omega);have hI:(s.read:Int)<(inp.size:Int):=by omega
  have a4:jc inp s.read=(inp[s.read].toNat:Int):=by unfold jc;rw[dif_pos hr]
  rw[a4];have HS:=hid h;have HH:=hid h;have b4:=inp[s.read].toNat_lt;have b2:=h.k2;clear e a4 h
  go_in
  go_wp2_with fail
  go_quiet (fail)
  go_wp2_with fail;have a0:But (fun _=>False) w ((w.alloc (.cells #[.int .i32 0,.int .i64 0] 168)).drewN nq):=(But.alloc _ _ _).trans (But.drewN _ _ _);have a3:cP ((w.alloc (.cells #[.int .i32 0,.int .i64 0] 168)).drewN nq) w.heap.size:=⟨0,0,heap_alloc_new _ _⟩;revert a0 a3;generalize ((w.alloc (.cells #[.int .i32 0,.int .i64 0] 168)).drewN nq)=X;intro a0 a3;have e1:=a0.kc c1 a2;have e2:=a0.kc c2 a2;have e3:=a0.kz z2 a2;have b0:=Nat.lt_of_lt_of_le a2 a0.size;clear nq
  go_quiet (fail)
  have a1:=a0.trans (But.drewN (fun _=>False) X nq);have a5:=a3.but (But.drewN (fun _=>False) X nq) (fun h=>h);have a6:=hid ((HS.out.new a1).readd (n:=s.read+1) (by omega));have q2:=a1.kc c2 a2;have q3:=a1.kz z2 a2;clear e1 e2 e3 a3 HS;revert a1 a5 a6 q2 q3;generalize X.drewN nq=Y;intro a1 a5 a6 q2 q3;have b1:=Nat.lt_of_lt_of_le a2 a1.size;obtain⟨K9,N9,r0,r1,f0,f1,b5⟩:=a5.parts;have b3: ¬bw=w.heap.size:=by omega
  have a7:=a6.out;rw[show((s.read+1:Nat):Int)=(s.read:Int)+1 from by simp]at a7;go_wp2_with fail;have a8:But (FrQ P w0) w (Y.setCell ⟨bw,2,none⟩ (.int .i64 ((s.read:Int)+1))):=(a1.mono (fun _ _ h=>h.elim)).trans (But.setCell Y (a:=⟨bw,2,none⟩) (F:=FrQ P w0) b2 _)
  exact pN Tryz.results232 rfl rfl ((a5.but (But.setB _ _ _ _) (fun e=>b3 e.symm)).put _ _) ⟨a8.next (cS _ _ _ _) (fun k hk e=>by have e:k=w.heap.size:=e;omega),rfl,
   a7.but (cS _ _ _ _) (fun k e=>by have e:k=w.heap.size:=e;have:=HH.out.old.size;omega) (fun k hk e=>by have e:k=w.heap.size:=e;have:=HH.out.lt hk;omega) (fun k hk e=>by have e:k=w.heap.size:=e;have:=(HH.out.pl k hk).1;omega)⟩
 ·have e:min s.read inp.size=inp.size:=by omega
  rw[e]at c2;have d1:decide ((inp.size:Int)<0)=false:=decide_eq_false (by omega);have d2:decide ((inp.size:Int)≤(inp.size:Int))=true:=decide_eq_true (by omega);have a4:jc inp s.read= -1:=by unfold jc;rw[dif_neg hr]
  rw[a4];have HS:=hid (h.unread (by omega));clear e a4 h
  go_in
  go_wp2_with fail
  go_quiet (fail)
  go_wp2_with fail;have a0:But (fun _=>False) w ((w.alloc (.cells #[.int .i32 0,.int .i64 0] 168)).drewN nq):=(But.alloc _ _ _).trans (But.drewN _ _ _);have a3:cP ((w.alloc (.cells #[.int .i32 0,.int .i64 0] 168)).drewN nq) w.heap.size:=⟨0,0,heap_alloc_new _ _⟩;exact pN Tryz.results232 rfl rfl (a3.put _ _) ⟨(a0.mono (fun _ _ h=>h.elim)).next (cS _ _ _ _) (fun k hk e=>by have e:k=w.heap.size:=e;omega),rfl,HS.out.res a0 (Nat.le_refl _) _ _⟩
theorem ox (h:WdQ P w0 w bw tx inp s vo vb gs fv cn sn) (h4:s.heap.length≤4000) (cs:List bA) (hn:cs.length≤100) (hT:TxC w0 tx cs) (c:UInt8) (o:Ob) (hc:c.toNat=65+o.cls) (ts:List UInt8) (hts:bI cs c=ts) (ht5:ts.length≤100) (hof:o.fs=ts.map cC):
  Calls Tryz.prog 236 #[.pointer (some ⟨bw,0,none⟩),.int .u8 c.toNat] w fun en w'=>But (FrQ P w0) w w'∧en= .returned (aG (.o s.heap.length))∧ ∃vb' gs' fv' sn',WdQ P w0 w' bw tx inp {s with heap:=s.heap++ [o]} vo vb' gs' fv' cn sn':=by
 have HF:=hid (fun X (hX:But (fun _=>False) w X)=>lh tx cs c X hn (hT.but (h.old.trans hX)));rw[hts]at HF;have e7:=sQ ts.length (by omega);have c0:=h.wd.c0;have b4:=h.wd.lt;obtain⟨ab,capb,rfl⟩:=aw h.ob;have c4:=h.wd.c4;have z4:=h.wd.fz 4;have a7:=h.ob;have e2:=h.old.size;have HH:=hid h;have HC:=hid hc;have HO:=hid hof;clear h hc hts hof;have f7:bw<w.heap.size+1:=by omega
 have f8:bw<w.heap.size+1+1:=by omega
 have f9:bw<w.heap.size+1+1+1:=by omega
 obtain⟨i0,e5,f3,f4,f5⟩:=info_parts AE;obtain⟨W,a5⟩: ∃W,((w.alloc (.cells #[.int .i32 0,.int .i64 0] 168)).alloc (.cells (fy ts.length).toArray 168)).alloc (.cells #[.int .u8 c.toNat,.slice (some ⟨w.heap.size+1,0,none⟩) ts.length ts.length,.int .i64 0] 318)=W:=⟨_,rfl⟩;have a6:But (fun _=>False) w W:=by rw[←a5];exact((But.alloc _ _ _).trans (But.alloc _ _ _)).trans (But.alloc _ _ _)
 have d6:W.heap.size=w.heap.size+1+1+1:=by rw[←a5];simp
 have b9:cP W w.heap.size:=by rw[←a5];exact⟨0,0,(((But.alloc (fun _=>False) _ _).trans (But.alloc _ _ _)).block _ (by simp) (fun h=>h)).trans (heap_alloc_new w _)⟩
 have b5:W.heap[w.heap.size+1]?=some (.cells (fy ts.length).toArray 168):=by rw[←a5];exact((But.alloc (fun _=>False) _ _).block _ (by simp) (fun h=>h)).trans (aq (by simp) _)
 have b6:W.heap[w.heap.size+1+1]?=some (.cells #[.int .u8 c.toNat,.slice (some ⟨w.heap.size+1,0,none⟩) ts.length ts.length,.int .i64 0] 318):=by rw[←a5];exact aq (by simp) _
 have b2:=hid a5;clear a5;have b3:=ag a7 a6 (fun _ _ h=>h)
 go_in
 go_wp2_with fail;refine(HF.out _ (But.alloc _ _ _)).mono ?_;rintro en w1 ⟨rfl,e0⟩;rw[e0];clear e0 w1;go_wp2_with (at_builtin;rw[b2.out];refine wpList_append_lies _ rfl _ _ _ rfl w0.heap.size 315 i0 _ 1 8 (by kernel_rfl) e5 f3 f4 f5 rfl (by omega) _ s.heap.length (ep gs) rfl (ag b3 (But.alloc (fun _=>False) _ _) (fun _ _ h=>h)) ⟨w.heap.size+1+1+1,0,none⟩ 1 1 [.pointer (some ⟨w.heap.size+1+1,0,none⟩)] rfl rfl (World.news_of_block (cs:=#[.pointer (some ⟨w.heap.size+1+1,0,none⟩)]) (t:=315) (fr:=(0,0)) (aq d6 _)) (by simp[Value.oneCell']) (by omega) (by unfold maxLen;omega) (by omega) (by simp;omega) (w.heap.size+1+1+1+1) (by simp[d6]) ?_)
 intro gg a0 w2 a3 a2 a1 e6;have a4:But (fun k=>(Value.slice ab s.heap.length capb).ownBlock=some k) W w2:=(But.alloc _ _ _).trans (bc a2);have c6:(Value.slice ab s.heap.length capb).ownBlock≠some bw:=aC a7 HH.out.wd (by decide);have a8:bw<W.heap.size:=by omega
 have y4:=(a4.cell (p:=⟨bw,4,none⟩) a8 c6).trans (a6.kc c4 b4);have y5:=(a4.frozen (p:=⟨bw,4,none⟩) a8 c6).trans (a6.kz z4 b4);have f6:bw<w2.heap.size:=Nat.lt_of_lt_of_le a8 a4.size;have b1:cP w2 w.heap.size:=b9.but a4 (fun hv=>by have:=aX a7 _ hv;omega);have b0: ∀k,ov bw vo (.slice ab s.heap.length capb) gs fv k→k<w.heap.size:=fun k hk=>HH.out.lt hk
 have f2:=(HH.out.new a6).newOb (o:=o) (gq:=w.heap.size+1+1) (vf:= .slice (some ⟨w.heap.size+1,0,none⟩) ts.length ts.length) (vb':= .slice (some ⟨gg,0,none⟩) (s.heap.length+1) a0) (by rw[←HC.out];exact b6) (by rw[HO.out,List.length_map];exact sR (base:=w.heap.size) (by omega) b5 (by omega)) e2
  ⟨by omega,fun hp=>by have:=(HH.out.pl _ hp).1;omega,fun hm=>by have:=b0 _ (Or.inr (Or.inr (Or.inr (Or.inl hm))));omega⟩
  (fun g hg=>by
   simp only[Value.ownBlock,Option.some.injEq]at hg;subst hg;exact⟨fun hp=>by have:=(HH.out.pl _ hp).1;omega,fun v hv hl=>by have:=b0 _ (Or.inr (Or.inr (Or.inr (Or.inr ⟨v,hv,hl⟩))));omega⟩)
  a4 a3 (fun g hg hp=>by
   simp only[Value.ownBlock,Option.some.injEq]at hg;subst hg;rcases a1 with a1|a1
   ·exact(HH.out.k5 a1).2 hp
   ·have:=(HH.out.pl _ hp).1;omega)
 have e3:But (FrQ P w0) w (w2.setCell ⟨bw,4,none⟩ (.slice (some ⟨gg,0,none⟩) (s.heap.length+1) a0)):=((a6.mono (fun _ _ h=>h.elim)).trans (a4.mono (fun k _ hv=>HH.out.k5 hv))).trans (But.setCell w2 (a:=⟨bw,4,none⟩) (F:=FrQ P w0) HH.out.k2 _);have e9:=b1.but (But.setB w2 bw 4 (.slice (some ⟨gg,0,none⟩) (s.heap.length+1) a0)) (fun e=>by have e:w.heap.size=bw:=e;omega)
 have e4: ∀k,ov bw vo (.slice (some ⟨gg,0,none⟩) (s.heap.length+1) a0) (gs++ [w.heap.size+1+1]) (fv++ [.slice (some ⟨w.heap.size+1,0,none⟩) ts.length ts.length]) k→k≠w.heap.size:=by
  intro k hk;have old: ∀{k},ov bw vo (.slice ab s.heap.length capb) gs fv k→k≠w.heap.size:=fun hk=>by have:=b0 _ hk;omega
  rcases hk with rfl|hk|hk|hk| ⟨v,hv,hk⟩
  ·exact old (Or.inl rfl)
  ·exact old (Or.inr (Or.inl hk))
  ·simp only[Value.ownBlock,Option.some.injEq]at hk;subst hk;rcases a1 with a1|a1
   ·exact old (Or.inr (Or.inr (Or.inl a1)))
   ·omega
  ·rcases List.mem_append.1 hk with hk|hk
   ·exact old (Or.inr (Or.inr (Or.inr (Or.inl hk))))
   ·rw[List.mem_singleton]at hk;omega
  ·rcases List.mem_append.1 hv with hv|hv
   ·exact old (Or.inr (Or.inr (Or.inr (Or.inr ⟨v,hv,hk⟩))))
   ·rw[List.mem_singleton]at hv;subst hv;simp only[Value.ownBlock,Option.some.injEq]at hk;omega
 have e1:Hid (∀k,P k→k<w.heap.size):=fun k hk=>(HH.out.pl k hk).1
 obtain⟨K9,N9,r0,r1,f0,f1,g1⟩:=b1.parts;have g0: ¬bw=w.heap.size:=by omega
 have e8: ¬w.heap.size=bw:=by omega
 clear HF e7 c0 c4 z4 HO HC b5 b6 b9 b3 a7 a3 a2 a1 b2 b1 a4 HH;go_wp2_with fail
 exact pN Tryz.results236 rfl rfl (e9.put _ _) ⟨e3.next (cS _ _ _ _) (fun k hk e=>by have e:k=w.heap.size:=e;omega),rfl,_,_,_,_,
  f2.but (cS _ _ _ _) (fun k e=>by have e:k=w.heap.size:=e;omega) (fun k hk e=>e4 k hk e) (fun k hk e=>by have e:k=w.heap.size:=e;have:=e1.out k hk;omega)⟩
theorem cW.frameW (h:WdQ P w0 w bw tx inp s vo vb gs fv cn sn) (ht:cW w0 w w'):But (FrQ P w0) w w':=by
 refine⟨ht.bel.os,ht.bel.tape,ht.bel.output,ht.bel.size,fun k hk hf=> ?_⟩
 by_cases h0:k<w0.heap.size
 ·exact ht.bel.block k h0
 ·have hp:P k:=Classical.byContradiction fun hp=>hf ⟨by omega,hp⟩
  rw[ht.kept k _ (Array.getElem?_eq_getElem hk) (fun c fz e=>(h.pl k hp).2 c fz (by rw[Array.getElem?_eq_getElem hk,e])),Array.getElem?_eq_getElem hk]
theorem WdQ.say {vo':Value} {o:List UInt8} (h:WdQ P w0 w bw tx inp s vo vb gs fv cn sn) (ht:cW w0 w w') (hrow:w'.ownsRow w0.heap.size 5 1 vo' o.length (Lib.byteCells o)):
  WdQ P w0 (w'.setCell ⟨bw,3,none⟩ vo') bw tx inp {s with out:=o} vo' vb gs fv cn sn:=by
 have hS:But (· =bw) w' (w'.setCell ⟨bw,3,none⟩ vo'):=But.setB _ _ _ _;have a0: ∀{k t:Nat} {c:Array Value} {fr:Nat×Nat},t≠5→w.heap[k]?=some (.cells c t fr)→w'.heap[k]?=some (.cells c t fr):=fun h1 hk=>ht.kept _ _ hk (fun c fz e=>by injection e with _ e2;exact h1 e2)
 have a2:XwC w' bw tx inp (min s.read inp.size:Nat) vo vb cn:=a0 (by decide) h.wd;have blk: ∀{k t:Nat} {c:Array Value} {fr:Nat×Nat},t≠5→t≠211→w.heap[k]?=some (.cells c t fr)→(w'.setCell ⟨bw,3,none⟩ vo').heap[k]?=some (.cells c t fr):=fun h1 h2 hk=>(hS.block _ (ae (a0 h1 hk)) (bv hk h.wd (Ne.symm h2))).trans (a0 h1 hk)
 have row: ∀{v:Value} {t b n z:Nat} {xs:List Value},t≠5→t≠211→w.ownsRow b t z v n xs→(w'.setCell ⟨bw,3,none⟩ vo').ownsRow b t z v n xs:=fun h1 h2 hr=>by
  refine⟨hr.1,?_⟩;rcases hr.2 with a4| ⟨g,cap,cur,hv,hg,hh,r⟩
  ·exact Or.inl a4
  ·exact Or.inr ⟨g,cap,cur,hv,hg,blk h1 h2 hh,r⟩
 have a1:But (fun _=>False) w0 w':=⟨ht.bel.os.trans h.old.os,ht.bel.tape.trans h.old.tape,ht.bel.output.trans h.old.output,Nat.le_trans h.old.size ht.bel.size,fun k hk _=>(ht.bel.block k hk).trans (h.old.block k hk (fun h=>h))⟩
 have a3: ∀g,vo'.ownBlock=some g→ ¬P g:=fun g hg hp=>by
  obtain⟨cur,hc⟩:=cD hrow hg;obtain⟨a,b⟩:=h.pl g hp;have e1:=ht.kept g _ (Array.getElem?_eq_getElem a) (fun c fz e=>b c fz (by rw[Array.getElem?_eq_getElem a,e]));rw[e1]at hc;exact b cur (0,0) (by rw[Array.getElem?_eq_getElem a];exact hc)
 refine⟨a1.next hS (fun k hk e=>by have e:k=bw:=e;have:=h.k2.1;omega),a2.set3 vo',ag hrow hS (fun g hg e=>aC hrow a2 (by decide) (e▸hg)),row (by decide) (by decide) h.ob,h.lg,h.lf,fun k o g v a b c=>⟨blk (by decide) (by decide) (h.obs k o g v a b c).1,row (by decide) (by decide) (h.obs k o g v a b c).2⟩,h.nd,fun k hk=> ?_,fun k hk=> ?_,h.sf,h.se⟩
 ·rcases hk with rfl|hk|hk|hk| ⟨v,hv,hk⟩
  ·exact h.k2
  ·exact⟨aA hrow k hk,a3 k hk⟩
  ·exact h.k5 hk
  ·exact h.k7 hk
  ·exact h.k8 hv hk
 ·obtain⟨a,b⟩:=h.pl k hk;have e1:=ht.kept k _ (Array.getElem?_eq_getElem a) (fun c fz e=>b c fz (by rw[Array.getElem?_eq_getElem a,e]));have e2:=hS.block k (ae e1) (fun e=>h.k2.2 (e▸hk));refine⟨by rw[bV];exact ae e1,fun c fz e=> ?_⟩;rw[e2,e1]at e;exact b c fz (by rw[Array.getElem?_eq_getElem a];exact e)
theorem sU (h:WdQ P w0 w bw tx inp s vo vb gs fv cn sn) (ht:dw w0) (n:Int) (h1: -2147483648≤n) (h2:n<2147483648) (hol:s.out.length≤90000):
  Calls Tryz.prog 233 #[.pointer (some ⟨bw,0,none⟩),.int .i32 n] w fun en w'=>But (FrQ P w0) w w'∧en= .returned (.tuple #[])∧ ∃vo',WdQ P w0 w' bw tx inp (s.say n) vo' vb gs fv cn sn:=by
 have hT:Lib.TabBelow Tryz.prog w0.heap.size w0 "internal/strconv.uint64pow10" .u64 Lib.pow10Tab:=Lib.tabBelow_of_tabIs ht;have b9:=hT.on (xA h.old);have HA:=hid (oX w0.heap.size s.out.length n h1 h2 vo _ w h.out h.old.size (by omega) b9);have c3:=h.wd.c3;have f5:=h.wd.lt;have HH:=hid h;obtain⟨ao,capo,rfl⟩:=aw h.out;clear h hT b9;have e8:=Lib.itoa_length_le n (by omega) (by omega);obtain⟨D,hD⟩: ∃D,Lib.itoa n=D:=⟨_,rfl⟩;rw[hD]at HA e8;have HD:=hid hD;clear hD
 go_in
 go_wp2_with fail;refine HA.out.mono ?_;rintro en w1 ⟨v',rfl,a2,b3,a0⟩;rw[←Lib.byteCells_append,←List.length_append]at a2;have b5:cW w0 w w1:=⟨b3,fun k o hk hn=>a0 k o hk (by simp) hn⟩;have b4:=HH.out.say b5 a2;have b6:=cW.frameW HH.out b5;obtain⟨av,capv,rfl⟩:=aw a2;have a3:XwC w1 bw tx inp (min s.read inp.size:Nat) (.slice ao s.out.length capo) vb cn:=a0 _ _ HH.out.wd (by simp) (fun c fz e=>by injection e with _ e2;exact absurd e2 (by decide));have e3:=a3.c3;have z3:=a3.fz 3;have m1:=a3.lt;obtain⟨m,hm⟩: ∃m,(s.out++D).length=m:=⟨_,rfl⟩;have f6:m≤95000:=by rw[←hm];simp;omega
 have b0:=b4.out;simp only at b0;rw[hm]at b4 b0⊢;have HM:=hid hm;have e4:=b4.old.size;have c6:=HH.out.k2;have a8:=hid b4;clear HA b3 a0 a2 b5 a3 hm b4;have a1:(w1.setCell ⟨bw,3,none⟩ (.slice av m capv)).heap.size=w1.heap.size:=bV _ _ _;obtain⟨i0,e7,f1,f2,f3⟩:=info_parts zj;go_wp2_with (at_builtin;refine wpList_append_lies _ rfl _ _ _ rfl w0.heap.size 5 i0 _ 1 1 (by kernel_rfl) e7 f1 f2 f3 rfl (by omega) _ m (Lib.byteCells (s.out++D)) rfl (ag b0 (But.alloc (fun _=>False) _ _) (fun _ _ h=>h)) ⟨w1.heap.size,0,none⟩ 1 1 [.int .u8 32] rfl rfl (World.news_of_block (cs:=#[.int .u8 32]) (t:=5) (fr:=(0,0)) (aq a1 _)) (by simp[Value.oneCell']) (by omega) (by unfold maxLen;omega) (by omega) (by simp;omega) (w1.heap.size+1) (by simp[a1]) ?_)
 intro gg b1 w2 a5 a4 e6 e9;have b2:But (fun k=>(Value.slice av m capv).ownBlock=some k) (w1.setCell ⟨bw,3,none⟩ (.slice av m capv)) w2:=(But.alloc _ _ _).trans (bc a4);have a7:cW w0 (w1.setCell ⟨bw,3,none⟩ (.slice av m capv)) w2:=cW.grown e4 b0 b2
 have a6:w2.ownsRow w0.heap.size 5 1 (.slice (some ⟨gg,0,none⟩) (m+1) b1) (s.out++D++ [32]).length (Lib.byteCells (s.out++D++ [32])):=by
  have e1:(s.out++D++ [32]).length=m+1:=by rw[List.length_append,HM.out];rfl
  rw[e1,Lib.byteCells_append];exact a5
 have f0:=a8.out.say a7 a6;have d6:=aC b0 a8.out.wd (by decide);have y3:=(b2.cell (p:=⟨bw,3,none⟩) (by rw[a1];exact m1) d6).trans a8.out.wd.c3;have y4:=(b2.frozen (p:=⟨bw,3,none⟩) (by rw[a1];exact m1) d6).trans (a8.out.wd.fz 3);have f4:bw<w2.heap.size:=Nat.lt_of_lt_of_le (by rw[a1];exact m1) b2.size
 have e5:But (FrQ P w0) w (w2.setCell ⟨bw,3,none⟩ (.slice (some ⟨gg,0,none⟩) (m+1) b1)):=
  ((b6.trans (But.setCell w1 (a:=⟨bw,3,none⟩) (F:=FrQ P w0) c6 _)).trans (cW.frameW a8.out a7)).trans (But.setCell w2 (a:=⟨bw,3,none⟩) (F:=FrQ P w0) c6 _)
 have e0:Hid (s.say n={s with out:=s.out++D++ [32]}):=by show _=_;simp[Ev.say,HD.out]
 clear a7 a6 b2 a5 a4 e6 a8 b0 e3 z3 c3 HM HD b6;go_wp2_with fail;go_end0;exact⟨e5,rfl,_,by rw[e0.out];exact f0⟩
end
def ReW (P:Nat→Prop) (w0 w:World) (bw tx:Nat) (inp:ByteArray) (cn:Int) (r:R) (en:Ending) (w':World):Prop:=
 But (FrQ P w0) w w'∧ ∃vo vb gs fv sn,match r with
 | .ok u _ s=>en= .returned (.tuple #[aG u,.int .i64 0])∧WdQ P w0 w' bw tx inp s vo vb gs fv cn sn
 | .bad e o=>en= .returned (.tuple #[.agg #[.int .i32 0,.int .i64 0],.int .i64 (bK e)])∧ ∃s,s.out=o∧WdQ P w0 w' bw tx inp s vo vb gs fv cn sn
section
variable {P:Nat→Prop} {w0 w w':World} {bw tx:Nat} {inp:ByteArray} {s:Ev} {vo vb:Value} {gs:List Nat} {fv:List Value} {cn:Int} {sn:Nat→Int} {l:List V}
theorem WdQ.grown {X:World} (h:WdQ P w0 w bw tx inp s vo vb gs fv cn sn) (hN:NB w X):WdQ (PQ P w X) w0 X bw tx inp s vo vb gs fv cn sn:=h.grow hN.but hN.nb
theorem WdQ.fin {X X':World} {r:Nat} (hN:NB w X) (h0:w0.heap.size≤w.heap.size) (hs:WdQ (PQ P w X) w0 X' bw tx inp s vo vb gs fv cn sn) (hB:But (FrQ (PQ P w X) w0) X X') (hr:w.heap.size≤r) (hx:cP X r) (a b:Int):
  cP X' r∧But (FrQ P w0) w ((X'.setCell ⟨r,0,none⟩ (.int .i32 a)).setCell ⟨r,1,none⟩ (.int .i64 b))∧WdQ P w0 ((X'.setCell ⟨r,0,none⟩ (.int .i32 a)).setCell ⟨r,1,none⟩ (.int .i64 b)) bw tx inp s vo vb gs fv cn sn:=by
 have a0:r<X.heap.size:=by obtain⟨K,N,hx⟩:=hx;exact ae hx
 have a1:cP X' r:=hx.but hB (fun hf=>hf.2 (Or.inr ⟨hr,a0⟩));refine⟨a1,?_,?_⟩
 ·refine((hN.but.mono (fun _ _ h=>h.elim)).trans (hB.mono (fun k hk hf=>⟨hf.1,fun hp=>hf.2 (Or.inl hp)⟩))).next (cS _ _ _ _) (fun k hk e=>by have e:k=r:=e;omega)
 ·refine(hs.tmp (F:=(· =r)) (cS _ _ _ _) (fun k e=>by have e:k=r:=e;subst e;exact⟨Or.inr ⟨hr,a0⟩,by omega⟩) (fun k e c fz he=> ?_)).less (fun k hp=>Or.inl hp);have e:k=r:=e;subst e;rw[a1.put]at he
  cases he
theorem WdQ.fin0 {X X':World} {r:Nat} (h:WdQ P w0 w bw tx inp s vo vb gs fv cn sn) (hN:NB w X) (hB:But (fun _=>False) X X') (hr:w.heap.size≤r) (hx:cP X r) (a b:Int):
  cP X' r∧But (FrQ P w0) w ((X'.setCell ⟨r,0,none⟩ (.int .i32 a)).setCell ⟨r,1,none⟩ (.int .i64 b))∧WdQ P w0 ((X'.setCell ⟨r,0,none⟩ (.int .i32 a)).setCell ⟨r,1,none⟩ (.int .i64 b)) bw tx inp s vo vb gs fv cn sn:=
 WdQ.fin hN h.old.size ((h.grown hN).new hB) (hB.mono (fun _ _ h=>h.elim)) hr hx a b
theorem A6 (h:WdQ P w0 w bw tx inp s vo vb gs fv cn sn) (u v:V) (pl n pn pc:Nat) (c:UInt8) (pa:Option Addr) (hn:n<100):
  Calls Tryz.prog 197 #[.pointer (some ⟨bw,0,none⟩),.agg #[.int .i64 pl,.int .u8 107,.int .u8 c.toNat,.int .i64 n,.slice pa pn pc],aG u,aG v] w (ReW P w0 w bw tx inp cn (.ok (.i n) l s)):=by
 unfold aG
 go_in
 go_wp2_with fail;exact cU Tryz.results197 rfl rfl rfl (aq (by simp) _) ⟨dX.but.mono (fun _ _ h=>h.elim),vo,vb,gs,fv,sn,rfl,h.new dX.but⟩
theorem A7 (h:WdQ P w0 w bw tx inp s vo vb gs fv cn sn) (u v:V) (pl n pn pc:Nat) (c:UInt8) (pa:Option Addr):
  Calls Tryz.prog 197 #[.pointer (some ⟨bw,0,none⟩),.agg #[.int .i64 pl,.int .u8 122,.int .u8 c.toNat,.int .i64 n,.slice pa pn pc],aG u,aG v] w (ReW P w0 w bw tx inp cn (.ok .z l s)):=by
 unfold aG
 go_in
 go_wp2_with fail;exact cU Tryz.results197 rfl rfl rfl (aq (by simp) _) ⟨dX.but.mono (fun _ _ h=>h.elim),vo,vb,gs,fv,sn,rfl,h.new dX.but⟩
theorem A8 (h:WdQ P w0 w bw tx inp s vo vb gs fv cn sn) (h40:inp.size≤40) (u v:V) (pl n pn pc:Nat) (c:UInt8) (pa:Option Addr):
  Calls Tryz.prog 197 #[.pointer (some ⟨bw,0,none⟩),.agg #[.int .i64 pl,.int .u8 114,.int .u8 c.toNat,.int .i64 n,.slice pa pn pc],aG u,aG v] w (ReW P w0 w bw tx inp cn (.ok (.i (jc inp s.read)) l {s with read:=s.read+1})):=by
 have HC:=hid (fun X (hX:NB w X)=>o8 (h.grown hX) h40);have h0:=h.old.size;clear h;unfold aG
 go_in
 go_wp2_with fail;refine(HC.out _ dX).mono ?_;rintro en w1 ⟨a0,rfl,a2⟩;have HF:=hid (fun a b=>WdQ.fin dX h0 a2 a0 (r:=w.heap.size+1+1+1) (by omega) ⟨0,0,aq (by simp) _⟩ a b);have a1:=(HF.out 0 0).1;obtain⟨K9,N9,r0,r1,f0,f1,a3⟩:=a1.parts;simp only[aG];clear HC a0 a2;go_wp2_with fail;exact cU Tryz.results197 rfl rfl rfl (a1.put _ _) ⟨(HF.out _ _).2.1,_,_,_,_,_,rfl,(HF.out _ _).2.2⟩
theorem A9 (h:WdQ P w0 w bw tx inp s vo vb gs fv cn sn) (ht:dw w0) (m:Int) (h1: -2147483648≤m) (h2:m<2147483648) (hol:s.out.length≤90000) (v:V) (pl n pn pc:Nat) (c:UInt8) (pa:Option Addr):
  Calls Tryz.prog 197 #[.pointer (some ⟨bw,0,none⟩),.agg #[.int .i64 pl,.int .u8 119,.int .u8 c.toNat,.int .i64 n,.slice pa pn pc],aG (.i m),aG v] w (ReW P w0 w bw tx inp cn (.ok (.i 0) l (s.say m))):=by
 have HC:=hid (fun X (hX:NB w X)=>sU (h.grown hX) ht m h1 h2 hol);have h0:=h.old.size;clear h;unfold aG
 go_in
 go_wp2_with fail;refine(HC.out _ dX).mono ?_;rintro en w1 ⟨a0,rfl,a4,a2⟩;have HF:=hid (fun a b=>WdQ.fin dX h0 a2 a0 (r:=w.heap.size+1+1+1) (by omega) ⟨0,0,aq (by simp) _⟩ a b);have a1:=(HF.out 0 0).1;obtain⟨K9,N9,r0,r1,f0,f1,a3⟩:=a1.parts;simp only[aG];clear HC a0 a2;go_wp2_with fail;exact cU Tryz.results197 rfl rfl rfl (a1.put _ _) ⟨(HF.out _ _).2.1,_,_,_,_,_,rfl,(HF.out _ _).2.2⟩
theorem Ba (h:WdQ P w0 w bw tx inp s vo vb gs fv cn sn) (u v:V) (huv:xO u=xO v↔u=v) (pl n pn pc:Nat) (c:UInt8) (pa:Option Addr):
  Calls Tryz.prog 197 #[.pointer (some ⟨bw,0,none⟩),.agg #[.int .i64 pl,.int .u8 101,.int .u8 c.toNat,.int .i64 n,.slice pa pn pc],aG u,aG v] w (ReW P w0 w bw tx inp cn (.ok (if u=v then .i 1 else .i 0) l s)):=by
 by_cases hq:xO u=xO v
 ·rw[if_pos (huv.1 hq)];have HC:=hid (fun X (hX:NB w X)=>iZ true X);have HG:=hid h;clear huv;clear h;unfold aG;rw[hq]
  go_in
  go_wp2_with fail;refine(HC.out _ dX).mono ?_;rintro en w1 ⟨rfl,a0⟩;have HF:=hid (fun a b=>HG.out.fin0 dX a0 (r:=w.heap.size+1+1+1) (by omega) ⟨0,0,aq (by simp) _⟩ a b);have a1:=(HF.out 0 0).1;obtain⟨K9,N9,r0,r1,f0,f1,a2⟩:=a1.parts;simp only[aG];clear HC a0;go_wp2_with fail;exact cU Tryz.results197 rfl rfl rfl (a1.put _ _) ⟨(HF.out _ _).2.1,_,_,_,_,_,rfl,(HF.out _ _).2.2⟩
 ·rw[if_neg (fun e=>hq (huv.2 e))];have a3:(xO u==xO v)=false:=by simpa using hq
  have HC:=hid (fun X (hX:NB w X)=>iZ false X);have HG:=hid h;clear huv;clear h;unfold aG
  go_in
  go_wp2_with fail;refine(HC.out _ dX).mono ?_;rintro en w1 ⟨rfl,a0⟩;have HF:=hid (fun a b=>HG.out.fin0 dX a0 (r:=w.heap.size+1+1+1) (by omega) ⟨0,0,aq (by simp) _⟩ a b);have a1:=(HF.out 0 0).1;obtain⟨K9,N9,r0,r1,f0,f1,a2⟩:=a1.parts;simp only[aG];clear HC a0;go_wp2_with fail;exact cU Tryz.results197 rfl rfl rfl (a1.put _ _) ⟨(HF.out _ _).2.1,_,_,_,_,_,rfl,(HF.out _ _).2.2⟩
theorem Bb (h:WdQ P w0 w bw tx inp s vo vb gs fv cn sn) (h4:s.heap.length≤4000) (cs:List bA) (hn:cs.length≤100) (hT:TxC w0 tx cs) (o:Ob) (ts:List UInt8) (u v:V) (pl n pn pc:Nat) (c:UInt8) (pa:Option Addr) (hc:c.toNat=65+o.cls) (hts:bI cs c=ts) (ht5:ts.length≤100) (hof:o.fs=ts.map cC):
  Calls Tryz.prog 197 #[.pointer (some ⟨bw,0,none⟩),.agg #[.int .i64 pl,.int .u8 110,.int .u8 c.toNat,.int .i64 n,.slice pa pn pc],aG u,aG v] w (ReW P w0 w bw tx inp cn (.ok (.o s.heap.length) l {s with heap:=s.heap++ [o]})):=by
 have HC:=hid (fun X (hX:NB w X)=>ox (h.grown hX) h4 cs hn hT c o hc ts hts ht5 hof);have h0:=h.old.size;clear h hc hts hof;unfold aG
 go_in
 go_wp2_with fail;refine(HC.out _ dX).mono ?_;rintro en w1 ⟨a0,rfl,a7,a4,a3,a6,a2⟩;have HF:=hid (fun a b=>WdQ.fin dX h0 a2 a0 (r:=w.heap.size+1+1+1) (by omega) ⟨0,0,aq (by simp) _⟩ a b);have a1:=(HF.out 0 0).1;obtain⟨K9,N9,r0,r1,f0,f1,a5⟩:=a1.parts;simp only[aG];clear HC a0 a2;go_wp2_with fail;exact cU Tryz.results197 rfl rfl rfl (a1.put _ _) ⟨(HF.out _ _).2.1,_,_,_,_,_,rfl,(HF.out _ _).2.2⟩
theorem zo (h:WdQ P w0 w bw tx inp s vo vb gs fv cn sn) (h4:s.heap.length≤4000) (v:V) (pl n pn pc:Nat) (c:UInt8) (pa:Option Addr):
  Calls Tryz.prog 197 #[.pointer (some ⟨bw,0,none⟩),.agg #[.int .i64 pl,.int .u8 103,.int .u8 c.toNat,.int .i64 n,.slice pa pn pc],aG .z,aG v] w (ReW P w0 w bw tx inp cn (.bad 6 s.out)):=by
 have HC:=hid (fun X (hX:NB w X)=>zm (h.grown hX) h4 n);have HG:=hid h;clear h;unfold aG
 go_in
 go_wp2_with fail;refine(HC.out _ dX).mono ?_;rintro en w1 ⟨a0,rfl⟩;have HF:=hid (fun a b=>HG.out.fin0 dX a0 (r:=w.heap.size+1+1+1) (by omega) ⟨0,0,aq (by simp) _⟩ a b);have a1:=(HF.out 0 0).1;obtain⟨K9,N9,r0,r1,f0,f1,a2⟩:=a1.parts;simp only[aG];clear HC a0;go_wp2_with fail;exact cU Tryz.results197 rfl rfl rfl (a1.put _ _) ⟨(HF.out _ _).2.1,_,_,_,_,_,rfl,s,rfl,(HF.out _ _).2.2⟩
theorem zp (h:WdQ P w0 w bw tx inp s vo vb gs fv cn sn) (h4:s.heap.length≤4000) {k:Nat} {o:Ob} (hk:s.heap[k]?=some o) (q:V) (v:V) (pl n pn pc:Nat) (c:UInt8) (pa:Option Addr) (hq:o.fs[n]?=some q):
  Calls Tryz.prog 197 #[.pointer (some ⟨bw,0,none⟩),.agg #[.int .i64 pl,.int .u8 103,.int .u8 c.toNat,.int .i64 n,.slice pa pn pc],aG (.o k),aG v] w (ReW P w0 w bw tx inp cn (.ok q l s)):=by
 have HC:=hid (fun X (hX:NB w X)=>zn (h.grown hX) h4 hk n q hq);have HG:=hid h;clear hk hq;clear h;unfold aG
 go_in
 go_wp2_with fail;refine(HC.out _ dX).mono ?_;rintro en w1 ⟨a0,rfl⟩;have HF:=hid (fun a b=>HG.out.fin0 dX a0 (r:=w.heap.size+1+1+1) (by omega) ⟨0,0,aq (by simp) _⟩ a b);have a1:=(HF.out 0 0).1;obtain⟨K9,N9,r0,r1,f0,f1,a2⟩:=a1.parts;simp only[aG];clear HC a0;go_wp2_with fail;exact cU Tryz.results197 rfl rfl rfl (a1.put _ _) ⟨(HF.out _ _).2.1,_,_,_,_,_,rfl,(HF.out _ _).2.2⟩
theorem zq (h:WdQ P w0 w bw tx inp s vo vb gs fv cn sn) (h4:s.heap.length≤4000) (v:V) (pl n pn pc:Nat) (c:UInt8) (pa:Option Addr):
  Calls Tryz.prog 197 #[.pointer (some ⟨bw,0,none⟩),.agg #[.int .i64 pl,.int .u8 112,.int .u8 c.toNat,.int .i64 n,.slice pa pn pc],aG .z,aG v] w (ReW P w0 w bw tx inp cn (.bad 6 s.out)):=by
 have HC:=hid (fun X (hX:NB w X)=>sS (h.grown hX) h4 n v);have HG:=hid h;clear h;unfold aG
 go_in
 go_wp2_with fail;refine(HC.out _ dX).mono ?_;rintro en w1 ⟨a0,rfl⟩;have HF:=hid (fun a b=>HG.out.fin0 dX a0 (r:=w.heap.size+1+1+1) (by omega) ⟨0,0,aq (by simp) _⟩ a b);have a1:=(HF.out 0 0).1;obtain⟨K9,N9,r0,r1,f0,f1,a2⟩:=a1.parts;simp only[aG];clear HC a0;go_wp2_with fail;exact cU Tryz.results197 rfl rfl rfl (a1.put _ _) ⟨(HF.out _ _).2.1,_,_,_,_,_,rfl,s,rfl,(HF.out _ _).2.2⟩
theorem zt (h:WdQ P w0 w bw tx inp s vo vb gs fv cn sn) (h4:s.heap.length≤4000) {k:Nat} {o:Ob} (hk:s.heap[k]?=some o) (v:V) (pl n pn pc:Nat) (c:UInt8) (pa:Option Addr) (hq:n<o.fs.length):
  Calls Tryz.prog 197 #[.pointer (some ⟨bw,0,none⟩),.agg #[.int .i64 pl,.int .u8 112,.int .u8 c.toNat,.int .i64 n,.slice pa pn pc],aG (.o k),aG v] w (ReW P w0 w bw tx inp cn (.ok (.i 0) l (s.put k n v))):=by
 have HC:=hid (fun X (hX:NB w X)=>sT (h.grown hX) h4 hk n v hq);have h0:=h.old.size;clear h hk hq;unfold aG
 go_in
 go_wp2_with fail;refine(HC.out _ dX).mono ?_;rintro en w1 ⟨a0,rfl,a2⟩;have HF:=hid (fun a b=>WdQ.fin dX h0 a2 a0 (r:=w.heap.size+1+1+1) (by omega) ⟨0,0,aq (by simp) _⟩ a b);have a1:=(HF.out 0 0).1;obtain⟨K9,N9,r0,r1,f0,f1,a3⟩:=a1.parts;simp only[aG];clear HC a0 a2;go_wp2_with fail;exact cU Tryz.results197 rfl rfl rfl (a1.put _ _) ⟨(HF.out _ _).2.1,_,_,_,_,_,rfl,(HF.out _ _).2.2⟩
theorem zu (h:WdQ P w0 w bw tx inp s vo vb gs fv cn sn) (h4:s.heap.length≤4000) (v:V) (pl n pn pc:Nat) (c:UInt8) (pa:Option Addr):
  Calls Tryz.prog 197 #[.pointer (some ⟨bw,0,none⟩),.agg #[.int .i64 pl,.int .u8 120,.int .u8 c.toNat,.int .i64 n,.slice pa pn pc],aG .z,aG v] w (ReW P w0 w bw tx inp cn (.ok .z l s)):=by
 have HC:=hid (fun X (hX:NB w X)=>AG (h.grown hX) h4 c);have HG:=hid h;clear h;unfold aG
 go_in
 go_wp2_with fail;refine(HC.out _ dX).mono ?_;rintro en w1 ⟨a0,rfl⟩;have HF:=hid (fun a b=>HG.out.fin0 dX a0 (r:=w.heap.size+1+1+1) (by omega) ⟨0,0,aq (by simp) _⟩ a b);have a1:=(HF.out 0 0).1;obtain⟨K9,N9,r0,r1,f0,f1,a2⟩:=a1.parts;simp only[aG];clear HC a0;go_wp2_with fail;exact cU Tryz.results197 rfl rfl rfl (a1.put _ _) ⟨(HF.out _ _).2.1,_,_,_,_,_,rfl,(HF.out _ _).2.2⟩
theorem zv (h:WdQ P w0 w bw tx inp s vo vb gs fv cn sn) (h4:s.heap.length≤4000) {k:Nat} {o:Ob} (hk:s.heap[k]?=some o) (cs:List bA) (hn:cs.length≤100) (hT:TxC w0 tx cs) (a:UInt8) (ha:a.toNat=65+o.cls) (v:V) (pl n pn pc:Nat) (c:UInt8) (pa:Option Addr):
  Calls Tryz.prog 197 #[.pointer (some ⟨bw,0,none⟩),.agg #[.int .i64 pl,.int .u8 120,.int .u8 c.toNat,.int .i64 n,.slice pa pn pc],aG (.o k),aG v] w (ReW P w0 w bw tx inp cn (if dc cs c cs.length a=true then .ok (.o k) l s else .bad 8 s.out)):=by
 have HC:=hid (fun X (hX:NB w X)=>AH (h.grown hX) h4 hk cs hn hT a c ha);have HG:=hid h;obtain⟨r,hr⟩: ∃r,dc cs c cs.length a=r:=⟨_,rfl⟩;rw[hr]at HC⊢;clear h hr ha hk
 cases r
 ·simp only[Bool.false_eq_true,if_false]at HC⊢;unfold aG
  go_in
  go_wp2_with fail;refine(HC.out _ dX).mono ?_;rintro en w1 ⟨a0,rfl⟩;have HF:=hid (fun a b=>HG.out.fin0 dX a0 (r:=w.heap.size+1+1+1) (by omega) ⟨0,0,aq (by simp) _⟩ a b);have a1:=(HF.out 0 0).1;obtain⟨K9,N9,r0,r1,f0,f1,a2⟩:=a1.parts;simp only[aG];clear HC a0;go_wp2_with fail;exact cU Tryz.results197 rfl rfl rfl (a1.put _ _) ⟨(HF.out _ _).2.1,_,_,_,_,_,rfl,s,rfl,(HF.out _ _).2.2⟩
 ·simp only[if_true]at HC⊢;unfold aG
  go_in
  go_wp2_with fail;refine(HC.out _ dX).mono ?_;rintro en w1 ⟨a0,rfl⟩;have HF:=hid (fun a b=>HG.out.fin0 dX a0 (r:=w.heap.size+1+1+1) (by omega) ⟨0,0,aq (by simp) _⟩ a b);have a1:=(HF.out 0 0).1;obtain⟨K9,N9,r0,r1,f0,f1,a2⟩:=a1.parts;simp only[aG];clear HC a0;go_wp2_with fail;exact cU Tryz.results197 rfl rfl rfl (a1.put _ _) ⟨(HF.out _ _).2.1,_,_,_,_,_,rfl,(HF.out _ _).2.2⟩
theorem Bc (h:WdQ P w0 w bw tx inp s vo vb gs fv cn sn) (op:Nat) (hop:op=43∨op=45∨op=42∨op=60∨op=61∨op=47) (a b:Int) (a1: -2147483648≤a) (a2:a<2147483648) (b1: -2147483648≤b) (b2:b<2147483648) (pl n pn pc:Nat) (c:UInt8) (pa:Option Addr):
  Calls Tryz.prog 197 #[.pointer (some ⟨bw,0,none⟩),.agg #[.int .i64 pl,.int .u8 op,.int .u8 c.toNat,.int .i64 n,.slice pa pn pc],aG (.i a),aG (.i b)] w (ReW P w0 w bw tx inp cn (cX op a b l s)):=by
 have HC:=hid (fun X=>xz op hop a b a1 a2 b1 b2 X);have HG:=hid h
 obtain⟨K,e,hK,hR⟩: ∃(K e:Int),ku op a b= .tuple #[.agg #[.int .i32 K,.int .i64 0],.int .i64 e]∧((∃m,m=K∧e=0∧cX op a b l s= .ok (.i m) l s)∨(K=0∧e=bK 7∧cX op a b l s= .bad 7 s.out)):=by
  unfold ku cX
  by_cases h47:op=47
  ·by_cases hb:b=0
   ·subst h47 hb;exact⟨0,3,rfl,Or.inr ⟨rfl,rfl,rfl⟩⟩
   ·simp only[h47,hb,and_false,if_true,if_false];exact⟨_,0,rfl,Or.inl ⟨_,rfl,rfl,rfl⟩⟩
  ·simp only[h47,false_and,if_false];exact⟨_,0,rfl,Or.inl ⟨_,rfl,rfl,rfl⟩⟩
 rw[hK]at HC;obtain⟨R,a4⟩: ∃R,cX op a b l s=R:=⟨_,rfl⟩;rw[a4]at hR⊢;have HR:=hid hR;clear h hK hR a4;rcases hop with rfl|rfl|rfl|rfl|rfl|rfl
 all_goals
  unfold aG
  go_in
  go_wp2_with fail;refine(HC.out _).mono ?_;rintro en w1 ⟨rfl,a3⟩;have HF:=hid (fun a b=>HG.out.fin0 dX a3 (r:=w.heap.size+1+1+1) (by omega) ⟨0,0,aq (by simp) _⟩ a b);have a0:=(HF.out 0 0).1;obtain⟨K9,N9,r0,r1,f0,f1,a5⟩:=a0.parts;simp only[aG];clear HC a3;go_wp2_with fail;rcases HR.out with⟨m,rfl,rfl,rfl⟩ | ⟨rfl,rfl,rfl⟩
  ·exact cU Tryz.results197 rfl rfl rfl (a0.put _ _) ⟨(HF.out _ _).2.1,_,_,_,_,_,rfl,(HF.out _ _).2.2⟩
  ·exact cU Tryz.results197 rfl rfl rfl (a0.put _ _) ⟨(HF.out _ _).2.1,_,_,_,_,_,rfl,s,rfl,(HF.out _ _).2.2⟩
theorem pO (h:WdQ P w0 w bw tx inp s vo vb gs fv cn sn) (h4:s.heap.length≤4000) (m d:Nat):
  Calls Tryz.prog 193 #[.pointer (some ⟨bw,0,none⟩),.agg #[.int .i32 0,.int .i64 0],.int .i64 m,.int .i64 d] w fun en w'=>But (fun _=>False) w w'∧en= .returned (.tuple #[.int .i64 (-1),.int .i64 2]):=by
 have HO:=hid (fun X (hX:But (fun _=>False) w X)=>zk (h.new hX) h4);clear h
 go_in
 go_wp2_with fail;refine(HO.out _ (But.alloc _ _ _)).mono ?_;rintro en w1 ⟨a0,rfl⟩;go_wp2_with fail;exact fm Tryz.results193 rfl rfl rfl ⟨(But.alloc _ _ _).trans a0,rfl⟩
theorem pP (h:WdQ P w0 w bw tx inp s vo vb gs fv cn sn) (h4:s.heap.length≤4000) {k:Nat} {o:Ob} (hk:s.heap[k]?=some o) (cs:List bA) (bs:List bz) (hn:cs.length≤100) (hnb:bs.length≤100) (hT:TxC w0 tx cs) (hTb:TxB w0 tx bs) (a:UInt8) (ha:a.toNat=65+o.cls) (m d:Nat):
  Calls Tryz.prog 193 #[.pointer (some ⟨bw,0,none⟩),.agg #[.int .i32 0,.int .i64 ((k:Int)+1)],.int .i64 m,.int .i64 d] w fun en w'=>But (fun _=>False) w w'∧en= .returned (if 12≤d then .tuple #[.int .i64 (-1),.int .i64 6]else .tuple #[.int .i64 (eM cs bs m cs.length a),.int .i64 0]):=by
 have HO:=hid (fun X (hX:But (fun _=>False) w X)=>zl (h.new hX) h4 hk);rw[←ha]at HO;have HB:=hid (fun X (hX:But (fun _=>False) w X)=>mq tx cs bs a m X hn hnb (hT.but (h.old.trans hX)) (hTb.but (h.old.trans hX)));have c0:=h.wd.c0;have a2:=h.wd.lt;have a5:(a.toNat:Int)≠45:=by omega
 obtain⟨r,hr⟩: ∃r,eM cs bs m cs.length a=r:=⟨_,rfl⟩;rw[hr]at HB⊢;clear h hk ha hr
 by_cases hd:12≤d
 ·rw[if_pos hd];have a4:12≤(d:Int):=by omega
  go_in
  go_wp2_with fail;refine(HO.out _ (But.alloc _ _ _)).mono ?_;rintro en w1 ⟨a0,rfl⟩;go_wp2_with fail;exact fm Tryz.results193 rfl rfl rfl ⟨(But.alloc _ _ _).trans a0,rfl⟩
 ·rw[if_neg hd];have a4: ¬12≤(d:Int):=by omega
  clear hd
  go_in
  go_wp2_with fail;refine(HO.out _ (But.alloc _ _ _)).mono ?_;rintro en w1 ⟨a0,rfl⟩;have a1:But (fun _=>False) w w1:=(But.alloc _ _ _).trans a0;have d0:=a1.kc c0 a2;have a6:=Nat.lt_of_lt_of_le a2 a1.size;clear HO a0 c0;go_wp2_with fail;refine(HB.out _ a1).mono ?_;rintro en w2 ⟨rfl,a3⟩;go_wp2_with fail;exact fm Tryz.results193 rfl rfl rfl ⟨a1.trans a3,rfl⟩
end
theorem xB (tx:Nat) (inp:ByteArray) (w:World):
  Calls Tryz.prog 86 #[.pointer (some ⟨tx,0,none⟩),.string inp] w fun en w'=>en= .returned (.pointer (some ⟨w.heap.size,0,none⟩))∧w'=w.alloc (.cells #[.pointer (some ⟨tx,0,none⟩),.string inp,.int .i64 0,.slice none 0 0,.slice none 0 0,.int .i64 0] 211):=by
 go_in
 go_wp2_with fail;go_ret;exact⟨rfl,rfl⟩
theorem sV {w:World} {bw tx base:Nat} {inp:ByteArray} {r:Int} {vo vb:Value} {cn:Int} {o:List UInt8} (h:XwC w bw tx inp r vo vb cn) (ho:w.ownsRow base 5 1 vo o.length (Lib.byteCells o)):
  Calls Tryz.prog 89 #[.pointer (some ⟨bw,0,none⟩)] w fun en w'=>en= .returned (.string ⟨o.toArray⟩)∧w'=w:=by
 have c3:=h.c3;have hl:=h.lt;have a0:=fx (l:=o) ho;obtain⟨ao,cap,rfl⟩:=aw ho;clear h ho
 go_in
 go_wp2_with fail;go_ret;exact⟨rfl,rfl⟩
theorem qT (e:Nat) (he:e=0∨(5≤e∧e≤10)) (w:World):
  Calls Tryz.prog 59 #[.int .i64 (bK e)] w fun en w'=>en= .returned (.int .i64 e)∧w'=w:=by
 have:e=0∨e=5∨e=6∨e=7∨e=8∨e=9∨e=10:=by omega
 rcases this with rfl|rfl|rfl|rfl|rfl|rfl|rfl
 ·rw[show bK _=0 from rfl]
  go_in
  go_wp2_with fail;go_ret;exact⟨rfl,rfl⟩
 ·rw[show bK _=1 from rfl]
  go_in
  go_wp2_with fail;go_ret;exact⟨rfl,rfl⟩
 ·rw[show bK _=2 from rfl]
  go_in
  go_wp2_with fail;go_ret;exact⟨rfl,rfl⟩
 ·rw[show bK _=3 from rfl]
  go_in
  go_wp2_with fail;go_ret;exact⟨rfl,rfl⟩
 ·rw[show bK _=4 from rfl]
  go_in
  go_wp2_with fail;go_ret;exact⟨rfl,rfl⟩
 ·rw[show bK _=5 from rfl]
  go_in
  go_wp2_with fail;go_ret;exact⟨rfl,rfl⟩
 ·rw[show bK _=6 from rfl]
  go_in
  go_wp2_with fail;go_ret;exact⟨rfl,rfl⟩
end
end Go.Proofs.YtpfkkmacakjmbaaGreatDoor
