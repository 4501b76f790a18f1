import Derived.Test.YtpfkkmacakjmbaaGreatDoorP33
set_option maxRecDepth 100000
set_option maxHeartbeats 6400000
set_option linter.unusedSimpArgs false
set_option linter.unusedVariables false
namespace Go.Proofs.YtpfkkmacakjmbaaGreatDoor
section
open Go Go.RowKit Sp
attribute [local go_sem ↓] Go.wp_at_zero Go.wp_at_succ
def FrB (w:World) (bf d:Nat) (X:ba) (vl vi:Value) (bl:Nat):Prop:=
 w.heap[bf]?=some (.cells #[.int .i64 d,.int .u8 X.cls.toNat,.int .i64 X.meth,.int .u8 X.ans.toNat,vl,vi,.pointer (some ⟨bl,0,none⟩)] 234)
theorem FrB.but {F:Nat→Prop} {w w':World} {bf d bl:Nat} {X:ba} {vl vi:Value} (h:FrB w bf d X vl vi bl) (hb:But F w w') (hf: ¬F bf):FrB w' bf d X vl vi bl:=(hb.block bf (ae h) hf).trans h
structure AF (w:World) (gs:List Sig) (b:Bod) (X:ba) (vl vi:Value):Prop where
 bt:BtB w 0 vl X.locals
 it:ItB w 0 vi X.items
 bd:BdN w 0 gs X b
section
variable {P:Nat→Prop} {w0 w w':World} {be bw tx bl:Nat} {inp:ByteArray} {s:Ev} {lv vo vb:Value} {l:List V} {gs:List Nat} {fv:List Value}
theorem nS {fu:Int} (he:XeB w be tx bw fu) (h0:But (fun _=>False) w0 w) (im:Img) (hT:eZ w0 tx im) (q d:Nat) (b:Bod) (hq:im.bodies[q]?=some b) (hlo:b.locals.length≤5) (hnb:im.bodies.length≤100):
  Calls Tryz.prog 92 #[.pointer (some ⟨be,0,none⟩),.int .i64 q,.int .i64 d] w fun en w'=> ∃(bf bl':Nat) (lv':Value) (X:ba) (vl vi:Value),en= .returned (.pointer (some ⟨bf,0,none⟩))∧But (fun _=>False) w w'∧FrB w' bf d X vl vi bl'∧AF w0 im.sigs b X vl vi∧w'.heap[bl']?=some (.cells #[lv'] 280)∧w'.ownsRow w.heap.size 168 2 lv' b.locals.length (aE (b.locals.map d8))∧w.heap.size≤bl'∧w.heap.size≤bf:=by
 obtain⟨bs,⟨v2,t2,b0,lb,hO,hm,hf⟩,a5,b5⟩:=hT.bod;have e3:=(List.getElem?_eq_some_iff.1 hq).1;have a8:lb.length=im.bodies.length:=by rw[←a5,←hm];simp
 obtain⟨⟨X,vl,vi⟩,hX⟩: ∃x,lb[q]?=some x:=⟨_,List.getElem?_eq_getElem (by omega)⟩;have b4:bs[q]?=some X:=by rw[←hm];simp[hX]
 have hB:=b5 q X b b4 hq;obtain⟨f1,f2⟩:=hf _ (List.mem_of_getElem? hX);simp only at f1 f2;have b1:Hid (AF w0 im.sigs b X vl vi):=⟨f1,f2,hB⟩;obtain⟨al,capl,rfl⟩:=aq f1;obtain⟨ai,capi,rfl⟩:=aq f2;obtain⟨ao,capo,rfl⟩:=aq hO;obtain⟨g,rfl,a2,e5,a0⟩:=aD hO (by omega);have q0:=a0 _ _ (aR (k:=0) hX (by omega));have q1:=a0 _ _ (aR (k:=1) hX (by omega));have q2:=a0 _ _ (aR (k:=2) hX (by omega));have q3:=a0 _ _ (aR (k:=3) hX (by omega));have q4:=a0 _ _ (aR (k:=4) hX (by omega));simp only[Nat.add_zero,List.getElem?_cons_zero,List.getElem?_cons_succ]at q0 q1 q2 q3 q4;have c7:X.locals.length=b.locals.length:=by rw[hB.loc]
 rw[c7]at b1;have b2:=hid (fun Y=>jK X.cls (X.meth:Int) X.ans X.locals al capl ai X.items.length capi Y (by omega));have e1:=hid hB.loc;have e0:=he.c0;have e4:=he.lt;have e6:(0:Int)≤(q:Int):=by omega
 have e7:(q:Int)<(lb.length:Int):=by omega
 replace q0:=(h0.cell a2 (fun h=>h)).trans q0;replace q1:=(h0.cell a2 (fun h=>h)).trans q1;replace q2:=(h0.cell a2 (fun h=>h)).trans q2;replace q3:=(h0.cell a2 (fun h=>h)).trans q3;replace q4:=(h0.cell a2 (fun h=>h)).trans q4;replace t2:=(h0.cell b0 (fun h=>h)).trans t2;replace a2:=Nat.lt_of_lt_of_le a2 h0.size;replace b0:=Nat.lt_of_lt_of_le b0 h0.size;clear a5 b5 a8 hX b4 hB f1 f2 a0 hf hO hm hq e3 hT he;generalize lb.length=nb at*
 go_in
 go_wp2_with fail;have a6:=heap_alloc_new w (.cells #[.int .u8 X.cls.toNat,.int .i64 X.meth,.int .u8 X.ans.toNat,.slice al b.locals.length capl,.slice ai X.items.length capi] 115);have a3:But (fun _=>False) w (w.alloc (.cells #[.int .u8 X.cls.toNat,.int .i64 X.meth,.int .u8 X.ans.toNat,.slice al b.locals.length capl,.slice ai X.items.length capi] 115)):=But.alloc _ _ _;revert a6 a3;generalize (w.alloc (.cells #[.int .u8 X.cls.toNat,.int .i64 X.meth,.int .u8 X.ans.toNat,.slice al b.locals.length capl,.slice ai X.items.length capi] 115))=W;intro a6 a3;obtain⟨k0,k1,k2,k3,k4⟩:=bc a6;have gltW:=ae a6
 clear q0 q1 q2 q3 q4 t2 e0 a6;have b3:But (fun _=>False) W W.drew:=But.drew _ _;rw[c7]at b2;refine aB (But (fun _=>False) W) 6 (by kernel_rfl) ?_
 iterate 3 (refine aG (v:=?_) rfl (by kernel_rfl) (fun _ _ _ h=>h) rfl b3 ?_ ?_;rotate_left;(focus (intro wS h;have q0:=(h.kc k0 gltW);have q1:=(h.kc k1 gltW);have q2:=(h.kc k2 gltW);have q3:=(h.kc k3 gltW);have q4:=(h.kc k4 gltW);clear h;go_simp;try rfl));dsimp only[Act.put];try simp only[aK])
 refine ag rfl (by kernel_rfl) ?_;intro KS hKS;go_simp;refine(b2.out _).mono ?_;rintro en w1 ⟨bl',lv',rfl,e2,b6,d6,a7⟩;have a1:=b3.trans e2;refine hKS.out _ _ (fun _=>a1) ?_;clear hKS KS;refine ag rfl (by kernel_rfl) ?_;intro KS hKS;go_simp;refine hKS.out _ _ (fun _=>a1) ?_;clear hKS KS;refine ag rfl (by kernel_rfl) ?_;intro KS hKS;go_simp;refine hKS.out _ _ (fun _=>a1.trans (But.alloc _ _ _)) ?_;clear hKS KS;refine fx rfl (by kernel_rfl) ?_;go_wp2_with fail;go_ret;have a4:=a3.trans a1;refine⟨_,bl',lv',X,_,_,rfl,a4.trans (But.alloc _ _ _),heap_alloc_new _ _,b1.out,((But.alloc (fun _=>False) _ _).block bl' (ae b6) (fun h=>h)).trans b6,?_,Nat.le_trans a3.size a7,a4.size⟩
 rw[e1.out]at d6;exact World.ownsRow.mono (ah d6 (But.alloc (fun _=>False) _ _) (fun _ _ h=>h)) a3.size
end
end
end Go.Proofs.YtpfkkmacakjmbaaGreatDoor
