import Derived.Test.YtpfkkmacakjmbaaGreatDoorP29
set_option maxRecDepth 100000
set_option maxHeartbeats 6400000
set_option linter.all false
namespace Go.Proofs.YtpfkkmacakjmbaaGreatDoor
open Proofs.Tryz
section
open Go Go.RowKit Sp
attribute [local go_sem ↓] eY eZ
theorem DL {zv:List V} (hl:2<=zv.length):1<=(cG zv).length/\(cG zv).length<=zv.length/\bT (cG zv)=hU zv/\cG (cG zv)=dT zv:=by
 have e:(cG zv).length=zv.length-1:=by simp[cG]
 refine⟨by omega,by omega,?_,?_⟩
 .unfold bT hU;rw[e];simp only[cG,bH];rw[List.getElem?_take_of_lt (by omega)]
  rfl
 .rw[show cG (cG zv)=(cG zv).take ((cG zv).length-1)from rfl,e];simp only[cG,dT,List.take_take]
  congr 1
  omega
section
variable {K:Dk} {w0 w w':World} {hv:Value} {fo:List Value} {s:Ev} {ds:List Fd} {d:Fd} {g cap:Nat} {x:Ins}
theorem li (h:DmQ K w0 w 0 12 hv (.slice (some ⟨g,0,none⟩) (ds.length+1) cap) fo s (ds++ [d])) (h4:d.zv.length<=4000) (hl:2<=d.zv.length):
  Calls prog 175 #[.pointer (some ⟨g,ds.length*4,none⟩)] w λen w'=>en= .returned (.agg #[.int .u8 (bT d.zv).K,.int .i64 (bT d.zv).N])/\But (· =g) w w'/\ ∀Y,B_ w' Y->Calls prog 175 #[.pointer (some ⟨g,ds.length*4,none⟩)] Y λen w''=>en= .returned (.agg #[.int .u8 (hU d.zv).K,.int .i64 (hU d.zv).N])/\But (· =g) Y w''/\ ∃sv,DmQ K w0 w'' 0 12 hv (.slice (some ⟨g,0,none⟩) (ds.length+1) cap) fo s (ds++ [⟨d.q,d.pc,dT d.zv,d.loc,sv,d.lv⟩]):=by
 obtain⟨t1,t2,c,e⟩:=DL hl;refine(iq h (by omega) h4).mono ?_;rintro en w1 ⟨rfl,a,sv,b⟩;refine⟨rfl,a,λY hY=> ?_⟩;have:=iq (b.new hY) t1 (by simp only;omega);simp only[c,e]at this;exact this
theorem Fn (h:DmQ K w0 w 0 12 hv (.slice (some ⟨g,0,none⟩) (ds.length+1) cap) fo s (ds++ [d])) (h4:d.zv.length<=4000) (hl:2<=d.zv.length) (ho:x.op.toNat=101):
  Calls prog 115 #[.pointer (some ⟨K.mb,0,none⟩),.pointer (some ⟨g,ds.length*4,none⟩),bk x] w λen w'=>en= .returned (.tuple #[])/\kD K w0 g cap ds d.q s d.pc (dT d.zv++ [if hU d.zv=bT d.zv then .i 1 else .i 0]) d.loc 12 w':=by
 have D:=hid (λY (hY:B_ w Y)=>li (h.new hY) h4 hl);have J:=h.cs.1;have z:(dT d.zv).length<=4000:=by simp[dT];omega
 clear h;unfold bk;rw[ho];clear ho;generalize bT d.zv=v at*;generalize hU d.zv=u at*;obtain⟨bb,f⟩: ∃bb:Bool,(u.K=v.K/\u.N=v.N↔bb=true):=⟨decide (u.K=v.K/\u.N=v.N),by simp⟩
 have E:(if u=v then V.i 1 else V.i 0)=if bb=true then .i 1 else .i 0:=by
  by_cases e:u=v
  .subst e;rw[if_pos rfl,if_pos (f.1 ⟨rfl,rfl⟩)]
  .rw[if_neg e,if_neg (λhb=>e ?_)];obtain⟨H,I⟩:=f.2 hb
   cases u<;>cases v<;>simp[V.K,V.N]at H I⊢ <;>omega
 rw[E];generalize r:(if bb=true then V.i 1 else V.i 0)=rv;have m:=hid r;have l:=hid f;clear E f r
 go_in
 go_wp2_with fail;refine(D.out _ (aa _ _ _)).mono ?_;rintro en w1 ⟨rfl,n,c⟩;replace c:=hid c;have C:=n.size;simp at C;have A: ¬w1.heap.size=g:=by omega
 clear D n;go_wp2_with fail;refine(c.out _ (aa _ _ _)).mono ?_;rintro en M ⟨rfl,p,sv,k⟩;have hi:=(p.block w1.heap.size (by simp) A).trans (aO w1 _);have O:=ce0 hi;have P:=ce1 hi;have L:=ae hi;have b:=hid (λY (hY:B_ M Y)=>dW (k.new hY) rv z);clear c p hi k;simp only[cW]at b;have B:(u.K=v.K/\u.N=v.N)\/ ¬u.K=v.K\/(u.K=v.K/\ ¬u.N=v.N):=by omega
 obtain⟨t,y⟩ |t| ⟨t,y⟩:=B
 .have j:Hid (rv= .i 1):=by show _=_;rw[<-m.out,if_pos (l.out.1 ⟨t,y⟩)]
  rw[j.out]at b;simp only[oC,oD]at b;go_wp2_with fail;refine(jF true _).mono ?_;rintro en F ⟨rfl,a⟩;simp only[cW,if_true,if_false,dS,oC,oD];go_wp2_with fail;refine(b.out _ (((aa _ _ _).trans a).trans (aa _ _ _))).mono ?_;rintro en G ⟨rfl,sv',k⟩;clear b a;go_wp2_with fail;go_end0;rw[j.out];exact⟨rfl,_,_,_,_,k⟩
 .have j:Hid (rv= .i 0):=by show _=_;rw[<-m.out,if_neg (λh=>t (l.out.2 h).1)]
  rw[j.out]at b;simp only[oC,oD]at b;go_wp2_with fail;refine(jF false _).mono ?_;rintro en F ⟨rfl,a⟩;simp only[cW,if_true,if_false,dS,oC,oD];go_wp2_with fail;refine(b.out _ (((aa _ _ _).trans a).trans (aa _ _ _))).mono ?_;rintro en G ⟨rfl,sv',k⟩;clear b a;go_wp2_with fail;go_end0;rw[j.out];exact⟨rfl,_,_,_,_,k⟩
 .have j:Hid (rv= .i 0):=by show _=_;rw[<-m.out,if_neg (λh=>y (l.out.2 h).2)]
  rw[j.out]at b;simp only[oC,oD]at b;go_wp2_with fail;refine(jF false _).mono ?_;rintro en F ⟨rfl,a⟩;simp only[cW,if_true,if_false,dS,oC,oD];go_wp2_with fail;refine(b.out _ (((aa _ _ _).trans a).trans (aa _ _ _))).mono ?_;rintro en G ⟨rfl,sv',k⟩;clear b a;go_wp2_with fail;go_end0;rw[j.out];exact⟨rfl,_,_,_,_,k⟩
theorem Fo (h:DmQ K w0 w 0 12 hv (.slice (some ⟨g,0,none⟩) (ds.length+1) cap) fo s (ds++ [d])) (h4:d.zv.length<=4000) (hl:2<=d.zv.length) {a b:Int} (ha:hU d.zv= .i a) (hb:bT d.zv= .i b) (a1: -2147483648<=a) (a2:a<2147483648) (b1: -2147483648<=b) (b2:b<2147483648) (hop:x.op.toNat=43\/x.op.toNat=45\/x.op.toNat=42\/x.op.toNat=60\/x.op.toNat=61):
  Calls prog 115 #[.pointer (some ⟨K.mb,0,none⟩),.pointer (some ⟨g,ds.length*4,none⟩),bk x] w λen w'=>en= .returned (.tuple #[])/\kD K w0 g cap ds d.q s d.pc (dT d.zv++ [.i (qi x.op.toNat a b)]) d.loc 12 w':=by
 have l:=hid (λY (hY:B_ w Y)=>li (h.new hY) h4 hl);have B:=h.cs.1;have t:(dT d.zv).length<=4000:=by simp[dT];omega
 have A:=hid (λw=>yz x.op.toNat hop a b a1 a2 b1 b2 w);rw[ha,hb]at l;simp only[oC,oD]at l;clear h ha hb a1 a2 b1 b2;unfold bk;generalize x.op.toNat=op at*;generalize qi op a b=r at*;obtain rfl|rfl|rfl|rfl|rfl:=hop
 all_goals
  go_in
  go_wp2_with fail;refine(l.out _ (aa _ _ _)).mono ?_;rintro en w1 ⟨rfl,e,c⟩;replace c:=hid c;have y:=e.size;simp at y;have v: ¬w1.heap.size=g:=by omega
  have j:=(e.block w.heap.size (by simp) (by show¬w.heap.size=g;omega)).trans (aO w _);clear l e;go_wp2_with fail;refine(c.out _ (aa _ _ _)).mono ?_;rintro en z ⟨rfl,f,sv,m⟩;have hi:=(f.block w1.heap.size (by simp) v).trans (aO w1 _);have F:=ce1 hi;have C:=ae hi;have p:=(f.block w.heap.size (by simp;omega) (by show¬w.heap.size=g;omega)).trans (((aa (λ_=>False) _ _).block w.heap.size (by omega) (λh=>h)).trans j);have E:=cz z _ 0 _ _ (0,0) p;simp at E;have D:=ae p;have n:=hid (λY (hY:B_ z Y)=>dW (m.new hY) (.i r) t);clear c f hi m p j;simp only[cW,oC,oD]at n;go_wp2_with fail
  refine(A.out _).mono ?_;rintro en wx ⟨rfl,k⟩;rw[k];clear k wx;go_wp2_with fail;refine(n.out _ (aa _ _ _)).mono ?_;rintro en G ⟨rfl,sv',m⟩;clear n;go_wp2_with fail;go_end0;exact⟨rfl,_,_,_,_,m⟩
theorem Fp (h:DmQ K w0 w 0 12 hv (.slice (some ⟨g,0,none⟩) (ds.length+1) cap) fo s (ds++ [d])) (h4:d.zv.length<=4000) (hl:2<=d.zv.length) {a b:Int} (ha:hU d.zv= .i a) (hb:bT d.zv= .i b) (a1: -2147483648<=a) (a2:a<2147483648) (b1: -2147483648<=b) (b2:b<2147483648) (ho:x.op.toNat=47):
  Calls prog 115 #[.pointer (some ⟨K.mb,0,none⟩),.pointer (some ⟨g,ds.length*4,none⟩),bk x] w λen w'=>en= .returned (.tuple #[])/\((b=0/\kD K w0 g cap ds d.q s d.pc (dT d.zv) d.loc 7 w')\/(b≠0/\kD K w0 g cap ds d.q s d.pc (dT d.zv++ [.i (w32 (Int.tdiv a b))]) d.loc 12 w')):=by
 have n:=hid (λY (hY:B_ w Y)=>li (h.new hY) h4 hl);have H:=h.cs.1;have y:(dT d.zv).length<=4000:=by simp[dT];omega
 rw[ha,hb]at n;simp only[oC,oD]at n;obtain⟨q,D⟩: ∃q,Int.tdiv a b=q:=⟨_,rfl⟩;have A:q.natAbs<=a.natAbs:=by rw[<-D,Int.natAbs_tdiv];exact Nat.div_le_self _ _
 rw[D];have M:wrap64 q=q:=IntWalk.wrap64_in q ⟨by omega,by omega⟩;have F:=hid (λw=>jU q (by omega) (by omega) w);clear h ha hb b1 b2 A;unfold bk;rw[ho];clear ho;generalize l:w32 q=r at*;clear l
 go_in
 go_wp2_with fail;refine(n.out _ (aa _ _ _)).mono ?_;rintro en w1 ⟨rfl,f,c⟩;replace c:=hid c;have B:=f.size;simp at B;have z: ¬w1.heap.size=g:=by omega
 have k:=(f.block w.heap.size (by simp) (by show¬w.heap.size=g;omega)).trans (aO w _);clear n f;go_wp2_with fail;refine(c.out _ (aa _ _ _)).mono ?_;rintro en E ⟨rfl,j,sv,e⟩;have hi:=(j.block w1.heap.size (by simp) z).trans (aO w1 _);have Q:=ce1 hi;have I:=ae hi;have v:=(j.block w.heap.size (by simp;omega) (by show¬w.heap.size=g;omega)).trans (((aa (λ_=>False) _ _).block w.heap.size (by omega) (λh=>h)).trans k);have O:=cz E _ 0 _ _ (0,0) v;simp at O;have J:=ae v;have t:=hid (λY (hY:B_ E Y)=>dW (e.new hY) (.i r) y);have L:=e.lt;have P:=e.mc.cs.2.2.2.2.2.2.2.2.2;have T:=e.mc.fz 9
 have C:=hid e;clear c j hi e v k;simp only[cW,oC,oD]at t
 by_cases h0:b=0
 .have G:(b==0)=true:=by simp[h0]
  have p:=hid h0;clear h0;go_wp2_with fail;go_end0;exact⟨rfl,Or.inl ⟨p.out,_,_,_,_,(C.out.own (val':=0) (e':=7) (s':=s) (aj _ K.mb 9 (.int .i64 7)) rfl (C.out.mc.set9 7)).new (aa _ _ _)⟩⟩
 .have G:(b==0)=false:=by simp[h0]
  have p:=hid h0;clear h0;go_wp2_with fail;refine(F.out _).mono ?_;rintro en wx ⟨rfl,m⟩;rw[m];clear m wx;go_wp2_with fail;refine(t.out _ (aa _ _ _)).mono ?_;rintro en S ⟨rfl,sv',e⟩;clear t;go_wp2_with fail;go_end0;exact⟨rfl,Or.inr ⟨p.out,_,_,_,_,e⟩⟩
theorem EH (h:DmQ K w0 w 0 12 hv (.slice (some ⟨g,0,none⟩) (ds.length+1) cap) fo s (ds++ [d])) (hx:x.b<100) (ho:x.op.toNat=106):
  Calls prog 113 #[.pointer (some ⟨K.mb,0,none⟩),.pointer (some ⟨g,ds.length*4,none⟩),bk x] w λen w'=>en= .returned (.tuple #[])/\kD K w0 g cap ds d.q s ((x.b:Int)-1) d.zv d.loc 12 w':=by
 obtain⟨c,_,_,_,c1,_,_,fz⟩:=h.cs;have f:=fz (ds.length*4+1);have a:=hid (h.pc ((x.b:Int)-1));have e:=dc ((x.b:Int)-1) (by omega) (by omega);clear fz h;unfold bk;rw[ho];clear ho;generalize ds.length*4=o at*
 go_in
 go_wp2_with fail;go_end0;exact⟨rfl,_,_,_,_,a.out.new (aa _ _ _)⟩
theorem EI (h:DmQ K w0 w 0 12 hv (.slice (some ⟨g,0,none⟩) (ds.length+1) cap) fo s (ds++ [d])) (h4:d.zv.length<=4000) (hl:1<=d.zv.length) (ho:x.op.toNat=100):
  Calls prog 113 #[.pointer (some ⟨K.mb,0,none⟩),.pointer (some ⟨g,ds.length*4,none⟩),bk x] w λen w'=>en= .returned (.tuple #[])/\kD K w0 g cap ds d.q s d.pc (cG d.zv) d.loc 12 w':=by
 have f:=hid (λY (hY:B_ w Y)=>iq (h.new hY) hl h4);obtain⟨k,_,_,_,_,c2,_,_⟩:=h.cs;obtain⟨a,c,e⟩:=ay h.st;rw[e]at c2;have hn:=tf d.zv.length 0 (by omega);clear h e hl;unfold bk;rw[ho];clear ho;simp only[cW]at f;generalize ds.length*4=o at*
 go_in
 go_wp2_with fail;refine(f.out _ (aa _ _ _)).mono ?_;rintro en w1 ⟨rfl,b,sv,i⟩;have hi:=(b.block w.heap.size (by simp) (by show¬w.heap.size=g;omega)).trans (aO w _);have m:=cz w1 _ 0 _ _ (0,0) hi;simp at m;have l:=ae hi;have j:=hid i;clear f b hi i;go_wp2_with fail;go_end0;exact⟨rfl,_,_,_,_,j.out.new (aa _ _ _)⟩
theorem EJ (h:DmQ K w0 w 0 12 hv (.slice (some ⟨g,0,none⟩) (ds.length+1) cap) fo s (ds++ [d])) (h4:d.zv.length<=4000) (hl:1<=d.zv.length) (hx:x.b<d.loc.length) (ho:x.op.toNat=115):
  Calls prog 113 #[.pointer (some ⟨K.mb,0,none⟩),.pointer (some ⟨g,ds.length*4,none⟩),bk x] w λen w'=>en= .returned (.tuple #[])/\kD K w0 g cap ds d.q s d.pc (cG d.zv) (d.loc.set x.b (bT d.zv)) 12 w':=by
 have A:=hid (λY (hY:B_ w Y)=>iq (h.new hY) hl h4);obtain⟨T,_,_,_,_,c2,_,_⟩:=h.cs;obtain⟨a,c,p⟩:=ay h.st;rw[p]at c2;have hn:=tf d.zv.length 0 (by omega);clear h p hl;unfold bk;rw[ho];clear ho;simp only[cW]at A;generalize bT d.zv=v at*
 go_in
 go_wp2_with fail;refine(A.out _ (aa _ _ _)).mono ?_;rintro en w1 ⟨rfl,m,sv,r⟩;have hi:=(m.block w.heap.size (by simp) (by show¬w.heap.size=g;omega)).trans (aO w _);have M:=cz w1 _ 0 _ _ (0,0) hi;have z:=cz w1 _ 2 _ _ (0,0) hi;simp at M z;have E:=ae hi;obtain⟨C,_,_,_,_,_,c3,_⟩:=r.cs;have i:=r.lo;simp only at c3 i;obtain⟨al,cl,l⟩:=ay i;rw[l]at i c3;obtain⟨gl,rfl,j,Z,f⟩:=aE i (by omega);obtain⟨u,G⟩: ∃u,d.loc[x.b]?=some u:=⟨_,aG hx⟩;have H:w1.cell? ⟨gl,x.b*2,none⟩=some (.int .u8 u.K):=f _ _ (aP (k:=0) G (by omega));have I:w1.cell? ⟨gl,x.b*2+1,none⟩=some (.int .i64 u.N):=f _ _ (aP (k:=1) G (by omega))
 have O:=eA i (x.b*2);have P:=eA i (x.b*2+1);have Q:=hid (λY (hY:B_ w1 Y)=>(r.new hY).setL (g:=gl) (by simp only;rw[l];rfl) x.b v);have a1:(x.b:Int)<(d.loc.length:Int):=by omega
 clear A m hi r i f l G;generalize F:d.loc.length=ln at*;clear F;generalize ds.length*4=o at*;go_wp2_with fail;obtain⟨X,t⟩: ∃X,w1.alloc (.cells #[.int .u8 v.K,.int .i64 v.N] 135)=X:=⟨_,rfl⟩;have e:B_ w1 X:=by rw[<-t];exact aa _ _ _
 have y:X.heap[w1.heap.size]?=some (.cells #[.int .u8 v.K,.int .i64 v.N] 135):=by rw[<-t];exact aO _ _
 rw[t];have J:=cz X _ 0 _ _ (0,0) y;have L:=cz X _ 1 _ _ (0,0) y;simp at J L;have n:=ae y;replace c3:=e.kc c3 C;replace z:=e.kc z E;replace H:=e.kc H j;replace I:=e.kc I j;replace O:=e.kz O j;replace P:=e.kz P j;have hz:=e.size;have B:g<X.heap.size:=by omega
 have D:w.heap.size<X.heap.size:=by omega
 have a0:gl<X.heap.size:=by omega
 clear t y c2 M hz j;refine aD (B_ X) 8 ?_;have S:B_ X X.drew:=aA _ _
 iterate 8 (refine aF (v:=?_) rfl S ?_ ?_;rotate_left;(focus (intro wS h;have H:=(h.kc c3 B);have I:=(h.kc z D);have q2:=(h.kc J n);have q3:=(h.kc L n);clear h;go_simp;try rfl));dsimp only[Act.put];try simp only[bW])
 refine dU rfl ?_;go_wp2_with fail;go_end0;exact⟨rfl,_,_,_,_,(Q.out X e).new (aA _ _)⟩
theorem EK (h:DmQ K w0 w 0 12 hv (.slice (some ⟨g,0,none⟩) (ds.length+1) cap) fo s (ds++ [d])) (h4:d.zv.length<=4000) (hx:x.b<d.loc.length) (ho:x.op.toNat=108):
  Calls prog 113 #[.pointer (some ⟨K.mb,0,none⟩),.pointer (some ⟨g,ds.length*4,none⟩),bk x] w λen w'=>en= .returned (.tuple #[])/\kD K w0 g cap ds d.q s d.pc (d.zv++ [d.loc.getD x.b .z]) d.loc 12 w':=by
 obtain⟨u,n⟩: ∃u,d.loc[x.b]?=some u:=⟨_,aG hx⟩;rw[show d.loc.getD x.b .z=u from by rw[bH,n];rfl];have p:=hid (λY (hY:B_ w Y)=>dW (h.new hY) u h4);obtain⟨y,_,_,_,_,_,c3,_⟩:=h.cs;have f:=h.lo;obtain⟨al,cl,l⟩:=ay f;rw[l]at f c3;obtain⟨gl,rfl,i,G,c⟩:=aE f (by omega);have B:w.cell? ⟨gl,x.b*2,none⟩=some (.int .u8 u.K):=c _ _ (aP (k:=0) n (by omega));have C:w.cell? ⟨gl,x.b*2+1,none⟩=some (.int .i64 u.N):=c _ _ (aP (k:=1) n (by omega));have H:(x.b:Int)<(d.loc.length:Int):=by omega
 clear h f l c n hx;unfold bk;rw[ho];clear ho;generalize d.loc.length=ln at*;obtain⟨X,m⟩: ∃X,w.alloc (.cells #[.int .u8 108,.int .i64 x.a,.int .i64 x.b,.int .i64 x.pos] 144)=X:=⟨_,rfl⟩;have e:B_ w X:=by rw[<-m];exact aa _ _ _
 have r:X.heap[w.heap.size]?=some (.cells #[.int .u8 108,.int .i64 x.a,.int .i64 x.b,.int .i64 x.pos] 144):=by rw[<-m];exact aO _ _
 have b2:=cz X _ 2 _ _ (0,0) r;simp at b2;have t:=ae r;replace c3:=e.kc c3 y;replace B:=e.kc B i;replace C:=e.kc C i;have I:=e.size;have A:g<X.heap.size:=by omega
 have j:gl<X.heap.size:=by omega
 have E:=hid m;clear m r I;simp only[cW]at p;generalize ds.length*4=o at*
 go_in
 go_wp2_with fail;rw[E.out];refine aD (B_ X) 9 ?_;have D:B_ X X.drew:=aA _ _
 iterate 9 (refine qg (v:=?_) rfl D ?_ ?_;rotate_left;(focus (intro wS h;have J:=(h.kc c3 A);have L:=(h.kc b2 t);have M:=(h.kc B j);have O:=(h.kc C j);clear h;go_simp;try rfl));dsimp only[Act.put];try simp only[bW])
 refine au rfl ?_;intro KS hKS;go_simp;refine(p.out _ (e.trans D)).mono ?_;rintro en w1 ⟨rfl,sv,F⟩;refine hKS.out _ _ nofun ?_;clear hKS KS p;refine aI rfl ?_;go_wp2_with fail;go_end0;exact⟨rfl,_,_,_,_,F⟩
theorem Fq (h:DmQ K w0 w 0 12 hv (.slice (some ⟨g,0,none⟩) (ds.length+1) cap) fo s (ds++ [d])) (h4:d.zv.length<=4000) (ho:x.op.toNat=122):
  Calls prog 114 #[.pointer (some ⟨K.mb,0,none⟩),.pointer (some ⟨g,ds.length*4,none⟩),bk x] w λen w'=>en= .returned (.tuple #[])/\kD K w0 g cap ds d.q s d.pc (d.zv++ [.z]) d.loc 12 w':=by
 have a:=hid (λY (hY:B_ w Y)=>dW (h.new hY) .z h4);clear h;unfold bk;rw[ho];clear ho;simp only[cW,wn,wu]at a;generalize ds.length*4=o at*
 go_in
 go_wp2_with fail;refine(a.out _ (aa _ _ _)).mono ?_;rintro en w1 ⟨rfl,sv,b⟩;clear a;go_wp2_with fail;go_end0;exact⟨rfl,_,_,_,_,b⟩
def ofV (im:Img) (s:Ev) (v:V) (y:Nat):Bool:=match v with
 | .o k=>bu im.zq 5 (s.cls k) y
 |_=>true
def rt (im:Img) (s:Ev) (v:V):Prop:=v= .z\/ ∃k ob,v= .o k/\s.heap[k]?=some ob/\ob.cls<im.zq.length
theorem EL {im:Img} {val e:Int} {fv:Value} {v:V} (h:DmQ K w0 w val e hv fv fo s ds) (hI:cH w0 K.bi im) (hw:WfC im.zq) (hv':rt im s v) (h4:s.heap.length<=4000) (y:Nat):
  Calls prog 176 #[.pointer (some ⟨K.mb,0,none⟩),cW v,.int .i64 y] w λen w'=>en= .returned (.bool (ofV im s v y))/\B_ w w':=by
 obtain rfl| ⟨k,ob,rfl,hk,hc⟩:=hv'
 .exact DJ h y
 .have:=DK h hI hw hk hc h4 y;rw[show ofV im s (.o k) y=bu im.zq 5 ob.cls y from by simp only[ofV];rw[(Ev.at hk).1]];exact this
theorem Fr {im:Img} (h:DmQ K w0 w 0 12 hv (.slice (some ⟨g,0,none⟩) (ds.length+1) cap) fo s (ds++ [d])) (h4:d.zv.length<=4000) (hl:1<=d.zv.length) (hI:cH w0 K.bi im) (hw:WfC im.zq) (hv':rt im s (bT d.zv)) (hh:s.heap.length<=4000) (ho:x.op.toNat=120):
  Calls prog 114 #[.pointer (some ⟨K.mb,0,none⟩),.pointer (some ⟨g,ds.length*4,none⟩),bk x] w λen w'=>en= .returned (.tuple #[])/\kD K w0 g cap ds d.q s d.pc d.zv d.loc (if ofV im s (bT d.zv) x.a=true then 12 else 8) w':=by
 have r:=hid (λY (hY:B_ w Y)=>iq (h.new hY) hl h4);have A:=h.cs.1;have m:(cG d.zv).length<=4000:=by simp[cG];omega
 obtain⟨n,_,_⟩:=qc hl;have k:=hid n;have p:=hid (λ(Y:World) fv ds (f:DmQ K w0 Y 0 12 hv fv fo s ds)=>EL f hI hw hv' hh x.a);obtain⟨b,z⟩: ∃b,ofV im s (bT d.zv) x.a=b:=⟨_,rfl⟩;rw[z]at p⊢;generalize bT d.zv=v at*;clear h n hI hw hv' z;unfold bk;rw[ho];clear ho;simp only[cW]at r p
 go_in
 go_wp2_with fail;refine(r.out _ (aa _ _ _)).mono ?_;rintro en w1 ⟨rfl,l,sv,f⟩;have hi:=(l.block w.heap.size (by simp) (by show¬w.heap.size=g;omega)).trans (aO w _);have E:=cz w1 _ 1 _ _ (0,0) hi;simp at E;have B:=ae hi;have y:=hid f;clear r l hi f;go_wp2_with fail;have j:=y.out.new (aa (λ_=>False) w1 (.cells #[.int .u8 v.K,.int .i64 v.N] 135));refine(p.out _ _ _ j).mono ?_;rintro en t ⟨rfl,i⟩;have hi:=(i.block w1.heap.size (by simp) (λh=>h)).trans (aO w1 _);have F:=cz t _ 0 _ _ (0,0) hi;have G:=cz t _ 1 _ _ (0,0) hi;simp at F G;have C:=ae hi;have c:=j.new i;have I:=c.mc.cs.2.2.2.2.2.2.2.2.2
 have J:=c.mc.fz 9;have D:=c.lt;clear p y j i hi
 cases b
 .have e:=hid (dW (c.own (val':=0) (e':=8) (s':=s) (aj t K.mb 9 (.int .i64 8)) rfl (c.mc.set9 8)) v m);simp only[cW]at e;rw[<-k.out]at e;clear c;go_wp2_with fail;refine e.out.mono ?_;rintro en H ⟨rfl,sv',f⟩;clear e;go_wp2_with fail;go_end0;exact⟨rfl,_,_,_,_,f⟩
 .have e:=hid (dW c v m);simp only[cW]at e;rw[<-k.out]at e;clear c;go_wp2_with fail;refine e.out.mono ?_;rintro en H ⟨rfl,sv',f⟩;clear e;go_wp2_with fail;go_end0;exact⟨rfl,_,_,_,_,f⟩
end
theorem sZ (bd:Bod) (vc vt:Value) (hvt: ∃ak n capk,vt= .slice ak n capk) (vs:List V) (ao:Option Addr) (cap:Nat) (w:World) (hl:bd.zy.length<=5) (hv:vs.length<=bd.zy.length) (base:Nat) (hs:w.ownsRow base 135 2 (.slice ao vs.length cap) vs.length (aJ vs)):
  Calls prog 66 #[.agg #[.int .i64 bd.cls,.int .i64 bd.meth,.string ⟨bd.zy.toArray⟩,vt,S_],.slice ao vs.length cap] w λen w'=> ∃v,en= .returned v/\w'.ownsRow w.heap.size 135 2 v (aL bd vs).length (aJ (aL bd vs))/\B_ w w':=by
 obtain⟨ak,n,capk,rfl⟩:=hvt;obtain⟨lo,E⟩: ∃lo,bd.zy=lo:=⟨_,rfl⟩;have HL:Hid (aL bd vs=vs++(lo.drop vs.length).map dG):=by show _=_;unfold aL;rw[E]
 obtain⟨nv,F⟩: ∃nv,vs.length=nv:=⟨_,rfl⟩;have j:=hid F;rw[E]at hl hv⊢;rw[F]at hs hv⊢;clear E F
 go_in
 go_wp2_with fail;obtain⟨i,r⟩: ∃i,w.alloc (.cells #[.int .i64 bd.cls,.int .i64 bd.meth,.string ⟨lo.toArray⟩,.slice ak n capk,S_] 52)=i:=⟨_,rfl⟩;have O:i.heap[w.heap.size]?=some (.cells #[.int .i64 bd.cls,.int .i64 bd.meth,.string ⟨lo.toArray⟩,.slice ak n capk,S_] 52):=by rw[<-r];exact aO _ _
 have x:B_ w i:=by rw[<-r];exact aa _ _ _
 rw[r];clear r;have M:=ag hs x (λ_ _ h=>h)
 go_loopg [5,6] nv (λmm ls ks wr=> ∃(ap:Option Addr) (cp k:Nat) (L:List V),ls= .slice ap k cp/\ks= .int .i64 k/\k+mm<=nv/\nv<=k+mm/\wr.ownsRow i.heap.size 135 2 (.slice ap k cp) k (aJ L)/\B_ i wr/\Hid (L=vs.take k))
 case atStart=>exact⟨none,0,0,[],rfl,rfl,by omega,by omega,cR _ _ _ _,bf _ _,rfl⟩
 case round=>
  obtain⟨ap,cp,k,L,rfl,rfl,P,Q,c,a,b⟩:=hrel;have s:=a.size
  by_cases hlt:k<nv
  .have D:(k:Int)<(nv:Int):=by omega
   have q:k<vs.length:=by rw[j.out];exact hlt
   have p:L.length=k:=by rw[b.out];simp;omega
   have t:=hid p;obtain⟨u,G⟩: ∃u,vs[k]=u:=⟨_,rfl⟩;have HT:Hid (L++ [u]=vs.take (k+1)):=by show _=_;rw[f7 q,G,b.out]
   obtain⟨g,rfl,a1,a2,d⟩:=aE (ag M a (λ_ _ h=>h)) (by omega);have Y:vs[k]?=some u:=by rw[aG q,G]
   have q0:wr.cell? ⟨g,k*2,none⟩=some (.int .u8 u.K):=d _ _ (aP (k:=0) Y (by omega));have q1:wr.cell? ⟨g,k*2+1,none⟩=some (.int .i64 u.N):=d _ _ (aP (k:=1) Y (by omega));clear G p q Y d;go_wp2_with (at_builtin;refine d8 rfl _ _ rfl wr i.heap.size _ L k t.out _ _ u rfl rfl rfl wr.heap.size rfl rfl (by exact c) (by omega) (by omega) ?_);intro gg cap3 Z f m B;have z:B_ i Z:=a.next m (λk' hk' h=>by have:=aY c k' h;have:=aw c k' h;omega);clear m B q0 q1;go_wp2_with fail
   go_roundg (nv-(k+1))
   case measure=>omega
   case rel=>exact⟨_,cap3,k+1,L++ [u],by simp,by simp,by omega,by omega,f,z,HT⟩
  .have D: ¬(k:Int)<(nv:Int):=by omega
   have T:nv=k:=by omega
   subst T;have H:L=vs:=by rw[b.out];exact fd (by rw[j.out];omega)
   rw[H]at c;clear H b L;go_wp2_with fail
   go_loopg [5,7] (lo.length-nv) (λmm ls ks wr=> ∃(ap:Option Addr) (cp k:Nat) (L:List V),ls= .slice ap k cp/\ks= .int .i64 k/\k+mm<=lo.length/\lo.length<=k+mm/\nv<=k/\wr.ownsRow i.heap.size 135 2 (.slice ap k cp) k (aJ L)/\B_ i wr/\Hid (L=vs++((lo.take k).drop nv).map dG))
   case atStart=>exact⟨_,_,nv,vs,rfl,rfl,by omega,by omega,by omega,c,a,by show _=_;rw[List.drop_eq_nil_of_le (by simp;omega)];simp⟩
   case round=>
    clear c a s;obtain⟨ap,cp,k,L,rfl,rfl,P,Q,a4,c,a,b⟩:=hrel;have s:=a.size;have I:=a.kp O;have g2:=ce2 I;have a3:=ae I;have X:((⟨lo.toArray⟩:ByteArray).size:Int)=(lo.length:Int):=rfl
    by_cases hlt:k<lo.length
    .have D:(k:Int)<(lo.length:Int):=by omega
     obtain⟨C,J⟩: ∃C,lo[k]=C:=⟨_,rfl⟩;have kC: ∀h,(⟨lo.toArray⟩:ByteArray)[k]'h=C:=λh=>by rw[<-J];exact ii lo _ hlt _
     have a5:k<(⟨lo.toArray⟩:ByteArray).size:=hlt;have p:L.length=k:=by rw[b.out];have:=j.out;simp;omega
     have t:=hid p;obtain⟨u,G⟩: ∃u,dG C=u:=⟨_,rfl⟩
     have HT:Hid (L++ [u]=vs++((lo.take (k+1)).drop nv).map dG):=by
      show _=_
      rw[f7 hlt,J,b.out,<-G,List.drop_append_of_le_length (by simp;omega)];simp
     have hp:=pb C wr;rw[G]at hp;have HP:=hid hp;clear J G p hp;go_wp2_with fail;refine HP.out.mono ?_;rintro en w1 ⟨rfl,y⟩;simp only[cW];have l:=a.trans y;have a0:=l.size;have A:=ag c y (λ_ _ h=>h);go_wp2_with (at_builtin;refine d8 rfl _ _ rfl (w1.alloc (.cells #[.int .u8 u.K,.int .i64 u.N] 135)) i.heap.size _ L k t.out _ _ u rfl rfl rfl (w1.heap.size+1) (by simp) rfl (ag A (aa (λ_=>False) _ _) (λ_ _ h=>h)) (by omega) (by simp;omega) ?_);intro gg cap3 Z f m B;have z:B_ i Z:=(l.trans (aa _ _ _)).next m (λk' hk' h=>by have:=aw A k' h;omega);clear m B A l y g2;go_wp2_with fail
     go_roundg (lo.length-(k+1))
     case measure=>omega
     case rel=>exact⟨_,cap3,k+1,L++ [u],by simp,by simp,by omega,by omega,by omega,f,z,HT⟩
    .have D: ¬(k:Int)<(lo.length:Int):=by omega
     go_wp2_with fail;go_ret;refine⟨_,rfl,?_,x.trans a⟩;have S:k=lo.length:=by omega
     have e:aL bd vs=L:=by rw[HL.out,b.out,S,List.take_length,j.out]
     rw[e,show L.length=k from by rw[b.out];have:=j.out;simp;omega];exact fc c x.size
theorem Cx:(prog.info? 121).map (λi=>(i.zero,i.size,i.bytes))=some (some (.agg #[.int .i64 0,.int .i64 0,S_,S_]),4,64):=by kernel_rfl
theorem cH.body {w:World} {bi:Nat} {im:Img} (h:cH w bi im) {k:Nat} {b:Bod} (hk:im.zj[k]?=some b):
  ∃(g cap:Nat) (ak:Option Addr) (capk:Nat),w.cell? ⟨bi,2,none⟩=some (.slice (some ⟨g,0,none⟩) im.zj.length cap)/\(k:Int)<(im.zj.length:Int)/\bi<w.heap.size/\g<w.heap.size/\w.ownsRow 0 144 4 (.slice ak b.code.length capk) b.code.length (dx b.code)/\w.cell? ⟨g,k*5,none⟩=some (.int .i64 b.cls)/\w.cell? ⟨g,k*5+1,none⟩=some (.int .i64 b.meth)/\w.cell? ⟨g,k*5+2,none⟩=some (.string ⟨b.zy.toArray⟩)/\w.cell? ⟨g,k*5+3,none⟩=some (.slice ak b.code.length capk)/\w.cell? ⟨g,k*5+4,none⟩=some S_:=by
 obtain⟨v0,v1,v2,l,f,x,y,r,hl,j⟩:=h;have t:=(bc hk).1;have n:l.length=im.zj.length:=by rw[<-hl];simp
 obtain⟨v,e,rfl⟩:=ay r;obtain⟨g,rfl,m,s,a⟩:=aE r (by omega);have d:=aG (show k<l.length by omega)
 have i:l[k].1=b:=by
  have q:(l.map (·.1))[k]?=im.zj[k]?:=by rw[hl]
  rw[cV,d,hk]at q;simpa using q
 obtain⟨c,p⟩:=j _ (bD (show k<l.length by omega));rw[i]at c;obtain⟨ak,capk,hv⟩:=ay c;have c2:=f.c2;rw[n]at c2;rw[hv]at c;refine⟨g,e,ak,capk,c2,by omega,f.lt,m,c,?_,?_,?_,?_,?_⟩
 .rw[<-i];exact a _ _ (eP d)
 .rw[<-i];exact a _ _ (eQ d)
 .rw[<-i];exact a _ _ (fO d)
 .rw[<-hv];exact a _ _ (fP d)
 .rw[<-p];exact a _ _ (fQ d)
def EM (K:Dk) (w0:World) (e:Int) (o:L_) (w':World):Prop:= ∃hv fv fo s ds,s.out=o/\DmQ K w0 w' 0 e hv fv fo s ds
section
variable {K:Dk} {w0 w w':World} {hv:Value} {fo:List Value} {s:Ev} {ds:List Fd} {d:Fd} {g cap:Nat} {x:Ins} {im:Img}
theorem DM (h:DmQ K w0 w 0 12 hv (.slice (some ⟨g,0,none⟩) (ds.length+1) cap) fo s (ds++ [d])) (h4:d.zv.length<=4000) (hl:2<=d.zv.length) (hv':hU d.zv= .z):
  Calls prog 111 #[.pointer (some ⟨K.mb,0,none⟩),.pointer (some ⟨g,ds.length*4,none⟩),bk x] w λen w'=>en= .returned (.tuple #[])/\EM K w0 6 s.out w':=by
 have m:=hid (λY (hY:B_ w Y)=>li (h.new hY) h4 hl);have B:=h.cs.1;have q:=hid (λ(Y:World) fv ds (n:DmQ K w0 Y 0 12 hv fv fo s ds)=>DJ n x.a);rw[hv']at m;generalize bT d.zv=v at*;clear h hv';unfold bk;simp only[cW,wn,wu]at m q
 go_in
 go_wp2_with fail;refine(m.out _ (aa _ _ _)).mono ?_;rintro en w1 ⟨rfl,e,c⟩;replace c:=hid c;have t:=e.size;simp at t;have l:=(e.block w.heap.size (by simp) (by show¬w.heap.size=g;omega)).trans (aO w _);clear m e;go_wp2_with fail;refine(c.out _ (aa _ _ _)).mono ?_;rintro en p ⟨rfl,k,sv,n⟩;have r:=(k.block w.heap.size (by simp;omega) (by show¬w.heap.size=g;omega)).trans (((aa (λ_=>False) _ _).block w.heap.size (by omega) (λh=>h)).trans l);have k1:=cz p _ 1 _ _ (0,0) r;simp at k1;have D:=ae r;have y:=hid n;clear c k n r l;go_wp2_with fail;have i:=y.out.new (aa (λ_=>False) p (.cells #[.int .u8 122,.int .i64 0] 135))
 refine(q.out _ _ _ i).mono ?_;rintro en A ⟨rfl,f⟩;have hi:=(f.block p.heap.size (by simp) (λh=>h)).trans (aO p _);have F:=cz A _ 0 _ _ (0,0) hi;simp at F;have C:=ae hi;have b:=i.new f;have G:=b.mc.cs.2.2.2.2.2.2.2.2.2;have H:=b.mc.fz 9;have E:=b.lt;have j:=hid b;clear q y i f hi b;go_wp2_with fail;exact fY results111 rfl ⟨rfl,_,_,_,_,_,rfl,j.out.own (val':=0) (e':=6) (s':=s) (aj A K.mb 9 (.int .i64 6)) rfl (j.out.mc.set9 6)⟩
theorem DN (h:DmQ K w0 w 0 12 hv (.slice (some ⟨g,0,none⟩) (ds.length+1) cap) fo s (ds++ [d])) (h4:d.zv.length<=4000) (hl:2<=d.zv.length) (hI:cH w0 K.bi im) (hw:WfI im) {k:Nat} {ob:Ob} (hv':hU d.zv= .o k) (hk:s.heap[k]?=some ob) (hc:ob.cls<im.zq.length) (hu:bu im.zq 5 ob.cls x.a=true) (hh:s.heap.length<=4000) (h12:ds.length<=100) {b:Nat} {bd:Bod} (hfd:bM im.zq im.zj x.b 5 ob.cls=b) (hbd:im.zj[b]?=some bd) (hb2:2<=bd.zy.length):
  Calls prog 111 #[.pointer (some ⟨K.mb,0,none⟩),.pointer (some ⟨g,ds.length*4,none⟩),bk x] w λen w'=>en= .returned (.tuple #[])/\((12<=ds.length+1/\EM K w0 10 s.out w')\/(¬12<=ds.length+1/\ ∃hv fv fo sv lv vl,DmQ K w0 w' 0 12 hv fv fo s ((ds++ [⟨d.q,d.pc,dT d.zv,d.loc,sv,lv⟩])++ [⟨b,0,[],aL bd [.o k,bT d.zv],S_,vl⟩]))):=by
 have HP:=hid (λY (hY:B_ w Y)=>li (h.new hY) h4 hl);have g6:=h.cs.1;have HO:=hid (λ(Y:World) fv ds (hM:DmQ K w0 Y 0 12 hv fv fo s ds)=>DK hM hI hw.cls hk hc hh x.a);rw[hu]at HO;rw[hv']at HP;generalize bT d.zv=v at*;clear h hv' hu;unfold bk;simp only[cW,wv,ww]at HP HO
 go_in
 go_wp2_with fail;refine(HP.out _ (aa _ _ _)).mono ?_;rintro en w1 ⟨rfl,S,G⟩;replace G:=hid G;have g0:=S.size;simp at g0;have b2:=(S.block w.heap.size (by simp) (by show¬w.heap.size=g;omega)).trans (aO w _);clear HP S;go_wp2_with fail;refine(G.out _ (aa _ _ _)).mono ?_;rintro en w2 ⟨rfl,T,sv,hM⟩;have L:=(T.block w.heap.size (by simp;omega) (by show¬w.heap.size=g;omega)).trans (((aa (λ_=>False) _ _).block w.heap.size (by omega) (λh=>h)).trans b2);have M:=(T.block w1.heap.size (by simp) (by show¬w1.heap.size=g;omega)).trans (aO w1 _);have k1:=cz w2 _ 1 _ _ (0,0) L;simp at k1;have J:=ae L;have HM:=hid hM
 clear G T hM b2;go_wp2_with fail;have hA:=aa (λ_=>False) w2 (.cells #[.int .u8 111,.int .i64 k] 135);have a1:=HM.out.new hA;refine(HO.out _ _ _ a1).mono ?_;rintro en O ⟨rfl,A⟩;have hi:=(A.block w2.heap.size (by simp) (λh=>h)).trans (aO w2 _);have r:=((hA.trans A).block w.heap.size J (λh=>h)).trans L;have i:=((hA.trans A).block w1.heap.size (ae M) (λh=>h)).trans M;have j:=a1.new A;have f6:w1.heap.size<w2.heap.size:=ae M;clear HO HM a1 A L M hA k1 J;generalize w1.heap.size=bv at*;generalize w2.heap.size=bo at*;have j0:=cz O _ 0 _ _ (0,0) hi;have j1:=cz O _ 1 _ _ (0,0) hi;have k2:=cz O _ 2 _ _ (0,0) r
 have v0:=cz O _ 0 _ _ (0,0) i;have v1:=cz O _ 1 _ _ (0,0) i;simp at j0 j1 k2 v0 v1;have y:=ae hi;have J:=ae r;have z:=ae i;obtain⟨c0,_,c2,c3,_,_,_,_,_,c9⟩:=j.mc.cs;have z9:=j.mc.fz 9;have a3:=j.lt;have E:=hid j
 by_cases hd:12<=ds.length+1
 .have e4:12<=(ds.length:Int)+1:=by omega
  clear j hi r i;go_wp2_with fail;exact fY results111 rfl ⟨rfl,Or.inl ⟨hd,_,_,_,_,_,rfl,E.out.own (val':=0) (e':=10) (s':=s) (aj O K.mb 9 (.int .i64 10)) rfl (E.out.mc.set9 10)⟩⟩
 .have e4: ¬12<=(ds.length:Int)+1:=by omega
  obtain⟨gh,ch,vf,rfl,_,e5,x0,_,_⟩:=j.obj hk;obtain⟨gb,cb,ak,capk,e2,g5,a2,f,_,f0,f1,f2,f3,f4⟩:=(hI.but j.old).body hbd;have g7:(k:Int)<(s.heap.length:Int):=by have:=(bc hk).1;omega
  have Q:=hid (λn=>nF K.bi im ob.cls x.b (O.drewN n) (hI.but (j.old.trans (aH _ _ n))).hds hw.cls hw.nc hw.nb (by omega) (by omega));rw[hfd]at Q;have e7:=(hw.bod bd (bn hbd)).loc.1;generalize ob.cls=oc at*;have P:=hid (And.intro hi i);clear j hi r i hfd hc c9 z9;go_wp2_with fail
  go_quiet (exact Calls.quiet_of_same (Q.out _))
  obtain⟨X,hX⟩: ∃X,O.drewN nq=X:=⟨_,rfl⟩;have c:B_ O X:=by rw[<-hX];exact aH _ _ _
  rw[hX];have F:=hid (E.out.new c);have e1:=(c.block bo y (λh=>h)).trans P.out.1;have e3:=(c.block bv z (λh=>h)).trans P.out.2;replace c0:=c.kc c0 a3;replace e2:=c.kc e2 a2;replace f0:=c.kc f0 f;replace f1:=c.kc f1 f;replace f2:=c.kc f2 f;replace f3:=c.kc f3 f;replace f4:=c.kc f4 f;replace j0:=c.kc j0 y;replace j1:=c.kc j1 y;replace v0:=c.kc v0 z;replace v1:=c.kc v1 z;have hz:=c.size;replace a3:K.mb<X.heap.size:=by omega
  replace a2:K.bi<X.heap.size:=by omega
  replace f:gb<X.heap.size:=by omega
  replace y:bo<X.heap.size:=by omega
  replace z:bv<X.heap.size:=by omega
  clear E Q P hX c hz c2 c3 x0 e5 k2 J e1 e3;generalize b3:im.zj.length=nb at*;have g4:=hid b3;clear b3;have a4:=hid (λ(Y:World) ao base hs=>sZ bd S_ (.slice ak bd.code.length capk) ⟨_,_,_,rfl⟩ [.o k,v] ao 2 Y e7 hb2 base hs);go_wp2_with fail;refine aD (B_ X) 14 ?_;have hS:B_ X X.drew:=aA _ _
  iterate 12 (refine aF (v:=?_) rfl hS ?_ ?_;rotate_left;(focus (intro wS h;have q0:=(h.kc c0 a3);have q1:=(h.kc e2 a2);have q2:=(h.kc f0 f);have q3:=(h.kc f1 f);have q4:=(h.kc f2 f);have q5:=(h.kc f3 f);have q6:=(h.kc f4 f);have q7:=(h.kc j0 y);have q8:=(h.kc j1 y);have q9:=(h.kc v0 z);have h1:=(h.kc v1 z);clear h;go_simp;try rfl));dsimp only[Act.put];try simp only[bW])
  refine au rfl ?_;intro KS hKS;go_simp;refine hKS.out _ _ (λ_=>(aa _ _ _).trans (aA _ _)) ?_;clear hKS KS c0 e2 f0 f1 f2 f3 f4 j0 j1 v0 v1;obtain⟨Y,hY⟩: ∃Y,(X.alloc (.cells #[.int .u8 111,.int .i64 k,.int .u8 v.K,.int .i64 v.N] 135)).drew=Y:=⟨_,rfl⟩;have B:B_ X Y:=by rw[<-hY];exact(aa _ _ _).trans (aA _ _)
  have b5:Y.ownsRow X.heap.size 135 2 (.slice (some ⟨X.heap.size,0,none⟩) 2 2) 2 (aJ [.o k,v]):=by
   refine⟨rfl,Or.inr ⟨X.heap.size,2,#[.int .u8 111,.int .i64 k,.int .u8 v.K,.int .i64 v.N],rfl,bP _,?_,by omega,by unfold maxLen;omega,rfl,rfl⟩⟩;rw[<-hY];exact((aA (λ_=>False) _).block _ (by simp) (λh=>h)).trans (aO X _)
  rw[hY];clear hY hS;refine au rfl ?_;intro KS hKS;go_simp;refine(a4.out Y _ _ b5).mono ?_;rintro en w5 ⟨vl,rfl,H,Z⟩;refine hKS.out _ _ (λ_=>B.trans Z) ?_;clear hKS KS;refine au rfl ?_;intro KS hKS;go_simp;refine hKS.out _ _ nofun ?_;clear hKS KS;refine aI rfl ?_;obtain⟨al,cl,rfl⟩:=ay H;have m:=F.out.new (B.trans Z)
  have b6:Hid (∀g',(Value.slice al (aL bd [.o k,v]).length cl).ownBlock=some g'-> ∀a u l,cT s.heap fo (ds++ [⟨d.q,d.pc,dT d.zv,d.loc,sv,d.lv⟩]) a=some (u,l)->u.ownBlock≠some g'):=λg' hg' a u l ha hv=>by
   have:=aw H g' hg';have:=aY (F.out.rw.row a u l ha) g' hv;have:=B.size;omega
  have h0:=m.old.size;have a6:=fc H (Nat.le_trans F.out.old.size B.size);clear a4 b5 B Z F H;have c3:=m.mc.cs.2.2.2.1;have z3:=m.mc.fz 3;have D:=m.lt;have b1:=m.fr;have b8:=hid m;have c8:=hid a6;obtain⟨i0,e6,g1,g2,g3⟩:=info_parts Cx;have b0:(ds++ [(⟨d.q,d.pc,dT d.zv,d.loc,sv,d.lv⟩:Fd)]).length=ds.length+1:=by simp
  rw[b0]at b1;have ab: ¬g=K.mb:=m.cs.2.2.1;generalize a5:aL bd [.o k,v]=LL at*;have b7:=hid a5;clear m a6 a5;generalize b4:LL.length=nl at*;have b9:=hid b4;clear b4;go_wp2_with (at_builtin;refine wpList_append_lies _ rfl _ _ _ rfl w0.heap.size 121 i0 _ 4 64 (by kernel_rfl) e6 g1 g2 g3 rfl (by omega) _ (ds.length+1) (d9 (ds++ [⟨d.q,d.pc,dT d.zv,d.loc,sv,d.lv⟩])) rfl (b1.alloc _) ⟨w5.heap.size,0,none⟩ 1 1 [.int .i64 b,.int .i64 0,S_,.slice al nl cl] rfl rfl (iu (cs:=#[.int .i64 b,.int .i64 0,S_,.slice al nl cl]) (t:=121) (fr:=(0,0)) (aO w5 _)) (by simp[Value.oneCell']) (by omega) (by unfold maxLen;omega) (by omega) (by simp;omega) (w5.heap.size+1) (by simp) ?_)
  intro gg cap3 w6 a0 C e0 e8;have I:But (λk'=>(Value.slice (some ⟨g,0,none⟩) (ds.length+1) cap).ownBlock=some k') w5 w6:=(aa _ _ _).trans (a8 C);have y0:=(I.cell (p:=⟨K.mb,3,none⟩) D (λe=>ab (by simpa[Value.ownBlock]using e))).trans c3;have y1:=(I.frozen (p:=⟨K.mb,3,none⟩) D (λe=>ab (by simpa[Value.ownBlock]using e))).trans z3;have f5:K.mb<w6.heap.size:=bK D I.size;clear c3 z3 C e0;go_wp2_with fail;go_end0;rw[b7.out];refine⟨rfl,Or.inr ⟨hd,_,_,_,_,_,_,b8.out.call (q:=b) (vl:= .slice al nl cl) (l:=LL) (by rw[b9.out];exact c8.out) b6.out I ?_⟩⟩;rw[jc,b0];exact a0
end
end
end Go.Proofs.YtpfkkmacakjmbaaGreatDoor
