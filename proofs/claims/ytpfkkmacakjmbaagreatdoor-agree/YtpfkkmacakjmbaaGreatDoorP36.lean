import Derived.Test.YtpfkkmacakjmbaaGreatDoorP35
import Derived.Test.YtpfkkmacakjmbaaGreatDoorP29
set_option maxRecDepth 100000
set_option maxHeartbeats 6400000
set_option linter.all false
namespace Go.Proofs.YtpfkkmacakjmbaaGreatDoor
open Proofs.Tryz
section
open Go Go.RowKit Sp
theorem Ej {cs:List Cls} {hp:List Ob} {t:UInt8} {v:V} (h:VT cs hp t v):kw hp.length v:=by
 cases v with
 |i n=>exact Or.inl ⟨n,rfl⟩
 |z=>exact Or.inr (Or.inl rfl)
 |o k=>
  obtain⟨_,ob,a,_⟩:=h;exact Or.inr (Or.inr ⟨k,rfl,(bn a).1⟩)
theorem AW {im:Img} (hw:WfI im) {hp:List Ob} (hh:HT im.zq hp):oX (im.zq.map toX) hp:=by
 intro o g;obtain⟨k,f,rfl⟩:=List.getElem_of_mem g;have a:hp[k]?=some hp[k]:=aM f;have hc:=hh.cls k _ a;have hn:=hw.nc;have hl:=hh.len k _ a;have b:=lZ hw.nc hc;have c:=lN hw.cls hw.nc (UInt8.ofNat (65+hp[k].cls));rw[b]at c;refine⟨⟨UInt8.ofNat (65+hp[k].cls),fZ (by omega),by rw[b,hl]⟩,by omega,λu hu=> ?_⟩;obtain⟨j,d,e⟩:=List.getElem_of_mem hu;exact Ej (hh.fs k _ j u a (by rw[aM d,e]))
theorem sH {cs:List Cls} {hp:List Ob} {ts us:L_} {vs:List V} (h:STk cs hp ts vs) (hu: ∀j:Nat,j<vs.length->us[j]?=ts[j]?): ∀v∈dY vs us,kw hp.length v:=by
 intro v f;unfold dY at f;obtain⟨⟨a,t⟩,hm,rfl⟩:=List.mem_map.1 f;obtain⟨k,ht⟩:=List.mem_filter.1 hm;obtain⟨j,i,e⟩:=List.getElem_of_mem k;have b:(vs.zip us)[j]?=some (a,t):=by rw[aM i,e]
 rw[List.getElem?_zip_eq_some]at b;have c:j<vs.length:=(bn b.1).1;have d:=h.at' j a b.1;have g:ts.getD j 0=t:=by rw[bM,<-hu j c,b.2];rfl
 rw[g]at d;exact Ej (d.not45 (by simpa using ht))
theorem wy {im:Img} {T:cG} (hF:Fit im T) {hp:List Ob} {g:Fm} {b:Bod} {x:Ins} {s l st:L_} (hb:im.zj[g.q]?=some b) (hx:b.code[g.pc]?=some x) (hs:jB T g.q g.pc=some (s,l)) (hst:STk im.zq hp st g.zv) (hp1: ∀j:Nat,j<g.zv.length->s[j]?=st[j]?) (hlen:st.length<=s.length) (hlo:STk im.zq hp l g.loc):
  ((∃st lo,jB T g.q g.pc=some (st,lo))/\g.zv.length<=1000/\g.loc.length<=1000/\(∀t,T[g.q]?=some t->t.length<=100)/\ ∀u∈jg T g,kw hp.length u)/\g.pc<=100:=by
 obtain⟨t,ht,m⟩:=hF.tab hb;have c:=hF.wf.bod b (a9 hb);have a:=hF.wt g.q b t hb ht;have d:=(dD ht).1 hs;obtain⟨k,i⟩:=a.2 g.pc s l d;have hn:=pK t;have e:=a.1;have f:=c.len.2;have h:g.pc<b.code.length:=(bn hx).1;refine⟨⟨⟨s,l,hs⟩,by rw[hst.len];omega,by rw[hlo.len,k.2.2];have:=c.loc.1;omega,λt' ht'=>by rw[ht]at ht';cases ht';omega,λu hu=> ?_⟩,by omega⟩;unfold jg at hu;rw[hs]at hu;obtain hu|hu:=gH hu
 .exact sH hst hp1 u hu
 .exact sH hlo (λ_ _=>rfl) u hu
theorem yg {s:L_} {n j:Nat} (h:j<(s.take n).length):s[j]?=(s.take n)[j]?:=by
 rw[List.getElem?_take,if_pos (by rw[List.length_take]at h;omega)]
theorem CF {im:Img} {T:cG} (hF:Fit im T) {hp:List Ob} {b:Bod} {r:List Fm} (h:ln im T hp b r):E1 T hp.length r/\ ∀g∈r,g.pc<=100:=by
 induction h with
 |main b hb=>exact⟨λf a=>(by cases a),λf a=>(by cases a)⟩
 |call b g r bg x s l hb hg hx ho hm hs h2 hst hlo hr ih=>
  have a:=wy hF hg hx hs hst (λj hj=>yg (by rw[<-hst.len];exact hj)) (by rw[List.length_take];omega) hlo;refine⟨λf' hf'=> ?_,λf' hf'=> ?_⟩
  .obtain rfl|hf':=List.mem_cons.1 hf'
   .exact a.1
   .exact ih.1 f' hf'
  .obtain rfl|hf':=List.mem_cons.1 hf'
   .exact a.2
   .exact ih.2 f' hf'
theorem yT {im:Img} {T:cG} (hF:Fit im T) {f:Fm} {rest:List Fm} {s:Ev} (h:MT im T f rest s):E1 T s.heap.length (f::rest)/\ ∀g∈f::rest,g.pc<=100:=by
 obtain⟨b,x,st,l,a,d⟩:=h.top;have c:=wy hF a.bd a.ins a.st a.zv (λ_ _=>rfl) (bG _) a.loc;have hc:=CF hF d;refine⟨λf' hf'=> ?_,λf' hf'=> ?_⟩
 .obtain rfl|hf':=List.mem_cons.1 hf'
  .exact c.1
  .exact hc.1 f' hf'
 .obtain rfl|hf':=List.mem_cons.1 hf'
  .exact c.2
  .exact hc.2 f' hf'
theorem yU (n:Nat) (s:List V):(tkR n s).length<=s.length:=by
 unfold tkR dp iA
 split
 .omega
 .split<;>(rw[List.length_take];omega)
section
variable {w0 w w':World} {im:Img} {T:cG} {mb tx:Nat} {tv:Value} {bw cells:Nat} {ans:Int} {inp:ByteArray} {r:Fr} {rs:List Fr} {f:Fm} {fs:List Fm} {s:Ev} {vo vb:Value} {gs:List Nat} {fv:List Value} {cn:Int} {sn:Nat->Int}
theorem yV (psh:Bool) (h:McQ w0 w im T mb tx tv bw cells ans inp (r::rs) (f::fs) s vo vb gs fv cn sn) (hT:d9 w0 tx im) (hcl:(im.zq.map toX).length<=100) (hsg:im.zx.length<=100) (h4:f.zv.length<=4000) (hpc:f.pc<=1000) (h100:(aR im.zx r.b).items.length<=100) (x:XIt) (hx:(aR im.zx r.b).items[f.pc]?=some x) (nT:Nat) (hnT:(aB (im.zq.map toX) im.zx x.op x.cls x.num (aR im.zx r.b).ans).length=nT) (a:nT<=2) (hl:nT<=f.zv.length) (hno:x.op.toNat≠99/\x.op.toNat≠116/\x.op.toNat≠106/\x.op.toNat≠102/\x.op.toNat≠108/\x.op.toNat≠115/\x.op.toNat≠110) (hly:match psh with|true=>(aH (im.zq.map toX) im.zx x.op x.cls x.num (aR im.zx r.b).zy).toNat≠0|false=>(aH (im.zq.map toX) im.zx x.op x.cls x.num (aR im.zx r.b).zy).toNat=0) (rr:R)
  (hD: ∀(P':Nat->Prop) X,WdQ P' w0 X bw tx inp s vo vb gs fv cn sn->Calls prog 197 #[.pointer (some ⟨bw,0,none⟩),cR x,aI (tkA nT f.zv),aI (tkB nT f.zv)] X (ReW P' w0 X bw tx inp cn rr)):
  Calls prog 88 #[.pointer (some ⟨mb,0,none⟩)] w (λen w'=> ∃e,en= .returned (.int .i64 e)/\yS w0 im T mb tx tv bw cells ans inp rs {f with zv:=tkR nT f.zv} fs cn rr psh (.returned (.int .i64 e)) w'):=by
 subst hnT;obtain⟨c,d,g,i,j,k,l⟩:=hno;refine jS (λe w'=>yS w0 im T mb tx tv bw cells ans inp rs {f with zv:=tkR _ f.zv} fs cn rr psh (.returned (.int .i64 e)) w') h hT hcl hsg h4 h100 x hx a hl (λY sv' hM=> .inl ⟨⟨c,d,g,i⟩,?_⟩);refine(E5 psh hM hT hcl hsg (Nat.le_trans (yU _ _) h4) hpc x _ _ j k l hly rr (λX hX=>hD _ _ (hM.wd.grown hX))).mono ?_;intro en p hp;have hp':=hp;obtain⟨u,e,s',vo',vb',gs',fv',sn',r',m,a,n⟩:=hp;subst a;exact⟨e,rfl,hp'⟩
end
end
section
open Go Go.RowKit Sp
attribute [local go_sem ↓] eF eG
section
variable {P:Nat->Prop} {w0 w w':World} {bw tx:Nat} {inp:ByteArray} {s:Ev} {vo vb:Value} {gs:List Nat} {fv:List Value} {cn:Int} {sn:Nat->Int} {l:List V}
theorem F2 (h:WdQ P w0 w bw tx inp s vo vb gs fv cn sn) (u v:V) (pl n pn pc:Nat) (c:UInt8) (pa:Option Addr):
  Calls prog 197 #[.pointer (some ⟨bw,0,none⟩),.agg #[.int .i64 pl,.int .u8 100,.int .u8 c.toNat,.int .i64 n,.slice pa pn pc],aI u,aI v] w (ReW P w0 w bw tx inp cn (.ok .z l s)):=by
 unfold aI
 go_in
 go_wp2_with fail;exact dI results197 rfl rfl rfl (aw (by simp) _) ⟨fH.but.mono (λ_ _ h=>h.elim),vo,vb,gs,fv,sn,rfl,h.new fH.but⟩
end
def ed (w0:World) (im:Img) (T:cG) (mb tx:Nat) (tv:Value) (bw cells:Nat) (ans:Int) (inp:ByteArray) (cn:Int) (sr:SR) (e:Int) (w':World):Prop:=match sr with
 | .go m=>e=0/\ ∃rs vo vb gs fv cn' sn,cn'<=cn+1/\McQ w0 w' im T mb tx tv bw cells ans inp rs m.fr m.ev vo vb gs fv cn' sn
 | .bad n o=>e=cr n/\ ∃rs fs s' vo vb gs fv cn' sn,s'.out=o/\McQ w0 w' im T mb tx tv bw cells ans inp rs fs s' vo vb gs fv cn' sn
 | .fin v o=>e=0/\ ∃s' vo vb gs fv cn' sn,s'.out=o/\McQ w0 w' im T mb tx tv bw cells (xN v) inp [] [] s' vo vb gs fv cn' sn
section
variable {w0 w w':World} {im:Img} {T:cG} {mb tx:Nat} {tv:Value} {bw cells:Nat} {ans:Int} {inp:ByteArray} {r:Fr} {rs:List Fr} {f:Fm} {fs:List Fm} {s:Ev} {vo vb:Value} {gs:List Nat} {fv:List Value} {cn:Int} {sn:Nat->Int} {b:Bod} {x:Ins} {st l:L_}
structure At (w0 w:World) (im:Img) (T:cG) (mb tx:Nat) (tv:Value) (bw cells:Nat) (ans:Int) (inp:ByteArray) (r:Fr) (rs:List Fr) (f:Fm) (fs:List Fm) (s:Ev) (vo vb:Value) (gs:List Nat) (fv:List Value) (cn:Int) (sn:Nat->Int) (b:Bod) (x:Ins) (st l:L_):Prop where
 mc:McQ w0 w im T mb tx tv bw cells ans inp (r::rs) (f::fs) s vo vb gs fv cn sn
 tx:d9 w0 tx im
 fit:Fit im T
 mt:MT im T f fs s
 top:tB im T s.heap f b x st l
theorem At.rb (h:At w0 w im T mb tx tv bw cells ans inp r rs f fs s vo vb gs fv cn sn b x st l):r.b=b:=by
 have a:=h.mc.fr.1.hb;rw[h.top.bd]at a
 cases a
 rfl
theorem At.hx (h:At w0 w im T mb tx tv bw cells ans inp r rs f fs s vo vb gs fv cn sn b x st l):(aR im.zx r.b).items[f.pc]?=some (aJ x):=by
 show(r.b.code.map aJ)[f.pc]?=_
 rw[h.rb,cg,h.top.ins]
 rfl
theorem At.sml (h:At w0 w im T mb tx tv bw cells ans inp r rs f fs s vo vb gs fv cn sn b x st l):f.zv.length<=1000/\f.pc<=100:=
 ⟨((yT h.fit h.mt).1 f (List.mem_cons_self ..)).2.1,(yT h.fit h.mt).2 f (List.mem_cons_self ..)⟩
theorem At.hcl (h:At w0 w im T mb tx tv bw cells ans inp r rs f fs s vo vb gs fv cn sn b x st l):(im.zq.map toX).length<=100:=by rw[bZ];have:=h.fit.wf.nc;omega
theorem At.h100 (h:At w0 w im T mb tx tv bw cells ans inp r rs f fs s vo vb gs fv cn sn b x st l):(aR im.zx r.b).items.length<=100:=by
 show(r.b.code.map aJ).length<=100
 rw[h.rb,bZ];exact(h.fit.wf.bod b (a9 h.top.bd)).len.2
theorem ef {x:Ins} {n:Nat} (h:x.op.toNat=n):cR (aJ x)= .agg #[.int .i64 x.pos,.int .u8 n,.int .u8 (aJ x).cls.toNat,.int .i64 x.b,S_]:=by
 subst h
 rfl
def srP (f:Fm) (fs:List Fm) (zv:List V):R->SR
 | .ok v _ t=> .go ⟨f.on (zv++ [v])::fs,t⟩
 | .bad n o=> .bad n o
def srN (f:Fm) (fs:List Fm) (zv:List V):R->SR
 | .ok _ _ t=> .go ⟨f.on zv::fs,t⟩
 | .bad n o=> .bad n o
theorem At.doP (h:At w0 w im T mb tx tv bw cells ans inp r rs f fs s vo vb gs fv cn sn b x st l) (nT:Nat) (hnT:(aB (im.zq.map toX) im.zx x.op (aJ x).cls x.b (aR im.zx r.b).ans).length=nT) (h2:nT<=2) (hl:nT<=f.zv.length) (hno:x.op.toNat≠99/\x.op.toNat≠116/\x.op.toNat≠106/\x.op.toNat≠102/\x.op.toNat≠108/\x.op.toNat≠115/\x.op.toNat≠110) (hly:(aH (im.zq.map toX) im.zx x.op (aJ x).cls x.b (aR im.zx r.b).zy).toNat≠0) (rr:R)
  (hD: ∀(P':Nat->Prop) X,WdQ P' w0 X bw tx inp s vo vb gs fv cn sn->Calls prog 197 #[.pointer (some ⟨bw,0,none⟩),cR (aJ x),aI (tkA nT f.zv),aI (tkB nT f.zv)] X (ReW P' w0 X bw tx inp cn rr))
  (sr:SR) (hsr:srP f fs (tkR nT f.zv) rr=sr):
  Calls prog 88 #[.pointer (some ⟨mb,0,none⟩)] w (λen w'=> ∃e,en= .returned (.int .i64 e)/\ed w0 im T mb tx tv bw cells ans inp cn sr e w'):=by
 refine(yV true h.mc h.tx h.hcl (by have:=h.fit.wf.ns;omega) (by have:=h.sml.1;omega) (by have:=h.sml.2;omega) h.h100 (aJ x) h.hx nT hnT h2 hl hno hly rr hD).mono ?_;rintro en w1 ⟨e,rfl,u,e',s',vo',vb',gs',fv',sn',r',c,a,d⟩;refine⟨e,rfl,?_⟩;injection a with a;injection a with _ a;subst a
 cases rr with
 |ok v _ t=>
  obtain⟨rfl,rfl,rfl⟩:=c;rw[<-hsr];exact⟨rfl,_,vo',vb',gs',fv',cn,sn',by omega,d⟩
 |bad n o=>
  obtain⟨rfl,rfl,g⟩:=c;rw[<-hsr];exact⟨rfl,_,_,s',vo',vb',gs',fv',cn,sn',g,d⟩
theorem Fb (h:At w0 w im T mb tx tv bw cells ans inp r rs f fs s vo vb gs fv cn sn b x st l) (ho:x.op.toNat=107):
  Calls prog 88 #[.pointer (some ⟨mb,0,none⟩)] w (λen w'=> ∃e,en= .returned (.int .i64 e)/\ed w0 im T mb tx tv bw cells ans inp cn (Sp.stepX im inp T cells x f fs s) e w'):=by
 have a:=(h.fit.wf.bod b (a9 h.top.bd)).code x (a9 h.top.ins);refine h.doP 0 (by simp[aB,ho]) (by omega) (by omega) (by omega) (by simp[aH,ho]) (.ok (.i x.b) [] s) (λP' X hX=> ?_) _ (by simp[srP,Sp.stepX,ho,tkR]);rw[ef ho];exact Ea hX _ _ _ _ _ _ _ _ a.num
theorem Fc (h:At w0 w im T mb tx tv bw cells ans inp r rs f fs s vo vb gs fv cn sn b x st l) (ho:x.op.toNat=122):
  Calls prog 88 #[.pointer (some ⟨mb,0,none⟩)] w (λen w'=> ∃e,en= .returned (.int .i64 e)/\ed w0 im T mb tx tv bw cells ans inp cn (Sp.stepX im inp T cells x f fs s) e w'):=by
 refine h.doP 0 (by simp[aB,ho]) (by omega) (by omega) (by omega) (by simp[aH,ho]) (.ok .z [] s) (λP' X hX=> ?_) _ (by simp[srP,Sp.stepX,ho,tkR]);rw[ef ho];exact Eb hX _ _ _ _ _ _ _ _
theorem Fd (h:At w0 w im T mb tx tv bw cells ans inp r rs f fs s vo vb gs fv cn sn b x st l) (h40:inp.size<=40) (ho:x.op.toNat=114):
  Calls prog 88 #[.pointer (some ⟨mb,0,none⟩)] w (λen w'=> ∃e,en= .returned (.int .i64 e)/\ed w0 im T mb tx tv bw cells ans inp cn (Sp.stepX im inp T cells x f fs s) e w'):=by
 refine h.doP 0 (by simp[aB,ho]) (by omega) (by omega) (by omega) (by simp[aH,ho]) (.ok (.i (jA inp s.read)) [] {s with read:=s.read+1}) (λP' X hX=> ?_) _ (by simp[srP,Sp.stepX,ho,tkR]);rw[ef ho];exact Ec hX h40 _ _ _ _ _ _ _ _
end
end
section
open Go Go.RowKit Sp
section
variable {w0 w w':World} {im:Img} {T:cG} {mb tx:Nat} {tv:Value} {bw cells:Nat} {ans:Int} {inp:ByteArray} {r:Fr} {rs:List Fr} {f:Fm} {fs:List Fm} {s:Ev} {vo vb:Value} {gs:List Nat} {fv:List Value} {cn:Int} {sn:Nat->Int} {b:Bod} {x:Ins} {st l:L_}
theorem At.doN (h:At w0 w im T mb tx tv bw cells ans inp r rs f fs s vo vb gs fv cn sn b x st l) (nT:Nat) (hnT:(aB (im.zq.map toX) im.zx x.op (aJ x).cls x.b (aR im.zx r.b).ans).length=nT) (h2:nT<=2) (hl:nT<=f.zv.length) (hno:x.op.toNat≠99/\x.op.toNat≠116/\x.op.toNat≠106/\x.op.toNat≠102/\x.op.toNat≠108/\x.op.toNat≠115/\x.op.toNat≠110) (hly:(aH (im.zq.map toX) im.zx x.op (aJ x).cls x.b (aR im.zx r.b).zy).toNat=0) (rr:R)
  (hD: ∀(P':Nat->Prop) X,WdQ P' w0 X bw tx inp s vo vb gs fv cn sn->Calls prog 197 #[.pointer (some ⟨bw,0,none⟩),cR (aJ x),aI (tkA nT f.zv),aI (tkB nT f.zv)] X (ReW P' w0 X bw tx inp cn rr))
  (sr:SR) (hsr:srN f fs (tkR nT f.zv) rr=sr):
  Calls prog 88 #[.pointer (some ⟨mb,0,none⟩)] w (λen w'=> ∃e,en= .returned (.int .i64 e)/\ed w0 im T mb tx tv bw cells ans inp cn sr e w'):=by
 refine(yV false h.mc h.tx h.hcl (by have:=h.fit.wf.ns;omega) (by have:=h.sml.1;omega) (by have:=h.sml.2;omega) h.h100 (aJ x) h.hx nT hnT h2 hl hno hly rr hD).mono ?_;rintro en w1 ⟨e,rfl,u,e',s',vo',vb',gs',fv',sn',r',c,a,d⟩;refine⟨e,rfl,?_⟩;injection a with a;injection a with _ a;subst a
 cases rr with
 |ok v _ t=>
  obtain⟨rfl,rfl,rfl⟩:=c;rw[<-hsr];exact⟨rfl,_,vo',vb',gs',fv',cn,sn',by omega,d⟩
 |bad n o=>
  obtain⟨rfl,rfl,g⟩:=c;rw[<-hsr];exact⟨rfl,_,_,s',vo',vb',gs',fv',cn,sn',g,d⟩
theorem At.eff (h:At w0 w im T mb tx tv bw cells ans inp r rs f fs s vo vb gs fv cn sn b x st l): ∃st' l',cX im.zq im.zx b x st l=some (st',l'):=by
 obtain⟨t,ht,a⟩:=h.fit.tab h.top.bd;obtain⟨st',l',c,_,_⟩:=a.go f.pc x st l h.top.ins ((dD ht).1 h.top.st);exact⟨st',l',c⟩
theorem Fe (h:At w0 w im T mb tx tv bw cells ans inp r rs f fs s vo vb gs fv cn sn b x st l) (ht:fd w0) (hol:s.out.length<=90000) (ho:x.op.toNat=119):
  Calls prog 88 #[.pointer (some ⟨mb,0,none⟩)] w (λen w'=> ∃e,en= .returned (.int .i64 e)/\ed w0 im T mb tx tv bw cells ans inp cn (Sp.stepX im inp T cells x f fs s) e w'):=by
 obtain⟨st',l',g⟩:=h.eff;obtain⟨a,_,_⟩:=bY (by omega) (by omega) g;simp[bv,arith,ho]at a;obtain⟨c,d⟩:=gz a;obtain⟨n,hn,j,k⟩:=(h.top.zv.t1 c).toInt h.fit.wf.cls h.fit.wf.nc h.mt.ht d;have hl:=h.top.zv.len;refine h.doN 1 (by simp[aB,ho]) (by omega) (by omega) (by omega) (by simp[aH,ho]) (.ok (.i 0) [] (s.say n)) (λP' X hX=> ?_) _ (by simp[srN,Sp.stepX,ho,tkR,hn,V.N]);rw[ef ho];simp only[tkA,tkB,hn];exact Ed hX ht n j k hol _ _ _ _ _ _ _
theorem Ff (h:At w0 w im T mb tx tv bw cells ans inp r rs f fs s vo vb gs fv cn sn b x st l) (ho:x.op.toNat=100):
  Calls prog 88 #[.pointer (some ⟨mb,0,none⟩)] w (λen w'=> ∃e,en= .returned (.int .i64 e)/\ed w0 im T mb tx tv bw cells ans inp cn (Sp.stepX im inp T cells x f fs s) e w'):=by
 obtain⟨st',l',a⟩:=h.eff;obtain⟨k,c,_,_⟩:=gC (by omega) (by omega) a;obtain⟨_,d,_⟩:=io (by omega) c;have hl:=h.top.zv.len;refine h.doN 1 (by simp[aB,ho]) (by omega) (by omega) (by omega) (by simp[aH,ho]) (.ok .z [] s) (λP' X hX=> ?_) _ (by simp[srN,Sp.stepX,ho,tkR]);rw[ef ho];exact F2 hX _ _ _ _ _ _ _ _
theorem yh (h:At w0 w im T mb tx tv bw cells ans inp r rs f fs s vo vb gs fv cn sn b x st l) (ho:x.op.toNat=43\/x.op.toNat=45\/x.op.toNat=42\/x.op.toNat=60\/x.op.toNat=61\/x.op.toNat=47):
  Calls prog 88 #[.pointer (some ⟨mb,0,none⟩)] w (λen w'=> ∃e,en= .returned (.int .i64 e)/\ed w0 im T mb tx tv bw cells ans inp cn (Sp.stepX im inp T cells x f fs s) e w'):=by
 obtain⟨st',l',p⟩:=h.eff;obtain⟨d,_,_⟩:=bY (by omega) (by omega) p
 have hp:bv im.zq im.zx b x=[105,105]:=by
  obtain h'|h'|h'|h'|h'|h':=ho<;>simp[bv,arith,h']
 rw[hp]at d;obtain⟨i,j,k⟩:=i8 d;obtain⟨n,hn,y,z⟩:=(h.top.zv.t2 i).toInt h.fit.wf.cls h.fit.wf.nc h.mt.ht j;obtain⟨m,hm,q,t⟩:=(h.top.zv.t1 (by omega)).toInt h.fit.wf.cls h.fit.wf.nc h.mt.ht k;have hl:=h.top.zv.len
 have c:aB (im.zq.map toX) im.zx x.op (aJ x).cls x.b (aR im.zx r.b).ans=[105,105]:=by
  unfold aB;rw[if_neg (by omega),if_neg (by omega),if_pos (by omega)]
 have a:aH (im.zq.map toX) im.zx x.op (aJ x).cls x.b (aR im.zx r.b).zy=105:=by
  unfold aH;rw[if_pos (by omega)]
 refine h.doP 2 (by rw[c];rfl) (by omega) (by omega) (by omega) (by rw[a];decide) (dO x.op.toNat n m [] s) (λP' X hX=> ?_) _ ?_
 .rw[ef rfl];simp only[tkA,tkB,hn,hm];exact Eg hX x.op.toNat ho n m y z q t _ _ _ _ _ _
 .have g:Sp.stepX im inp T cells x f fs s=match dO x.op.toNat (kK f.zv).N (dv f.zv).N [] s with
   | .bad e o=> .bad e o
   | .ok v _ s=> .go ⟨f.on (iA f.zv++ [v])::fs,s⟩:=by
   obtain h'|h'|h'|h'|h'|h':=ho<;>simp[Sp.stepX,h']<;>rfl
  rw[g,hn,hm];simp only[V.N,tkR]
  cases dO x.op.toNat n m [] s<;>rfl
theorem At.nsg (h:At w0 w im T mb tx tv bw cells ans inp r rs f fs s vo vb gs fv cn sn b x st l):im.zx.length<=100:=by have:=h.fit.wf.ns;omega
theorem Fg (h:At w0 w im T mb tx tv bw cells ans inp r rs f fs s vo vb gs fv cn sn b x st l) (ho:x.op.toNat=106):
  Calls prog 88 #[.pointer (some ⟨mb,0,none⟩)] w (λen w'=> ∃e,en= .returned (.int .i64 e)/\ed w0 im T mb tx tv bw cells ans inp cn (Sp.stepX im inp T cells x f fs s) e w'):=by
 have a:(aB (im.zq.map toX) im.zx (aJ x).op (aJ x).cls (aJ x).num (aR im.zx r.b).ans).length=0:=by simp[aB,aJ,ho]
 refine jS (λe w'=>ed w0 im T mb tx tv bw cells ans inp cn (Sp.stepX im inp T cells x f fs s) e w') h.mc h.tx h.hcl h.nsg (by have:=h.sml.1;omega) h.h100 (aJ x) h.hx (by omega) (by omega) (λ_ _ _=> .inr (.inr (.inr (.inr ⟨ho,λY sv' hM=> ?_⟩))));have c:Sp.stepX im inp T cells x f fs s= .go ⟨{f with pc:=x.b}::fs,s⟩:=by simp[Sp.stepX,ho]
 rw[a]at hM;rw[c];exact⟨rfl,_,_,_,_,_,cn,_,by omega,hM⟩
theorem Fh (h:At w0 w im T mb tx tv bw cells ans inp r rs f fs s vo vb gs fv cn sn b x st l) (ho:x.op.toNat=102):
  Calls prog 88 #[.pointer (some ⟨mb,0,none⟩)] w (λen w'=> ∃e,en= .returned (.int .i64 e)/\ed w0 im T mb tx tv bw cells ans inp cn (Sp.stepX im inp T cells x f fs s) e w'):=by
 obtain⟨st',l',p⟩:=h.eff;obtain⟨g,_,_⟩:=bY (by omega) (by omega) p;simp[bv,arith,ho]at g;obtain⟨k,m⟩:=gz g;obtain⟨n,hn,q,t⟩:=(h.top.zv.t1 k).toInt h.fit.wf.cls h.fit.wf.nc h.mt.ht m;have hl:=h.top.zv.len;have d:(aB (im.zq.map toX) im.zx (aJ x).op (aJ x).cls (aJ x).num (aR im.zx r.b).ans).length=1:=by simp[aB,aJ,ho]
 refine jS (λe w'=>ed w0 im T mb tx tv bw cells ans inp cn (Sp.stepX im inp T cells x f fs s) e w') h.mc h.tx h.hcl h.nsg (by have:=h.sml.1;omega) h.h100 (aJ x) h.hx (by omega) (by omega) (λY sv' hM=> .inr (.inr (.inr (.inl ⟨ho,?_⟩))));rw[d]at hM⊢;refine(E8 hM (by have:=h.sml.2;simp;omega) (aJ x).num _).mono ?_;rintro en w1 ⟨rfl,a⟩;refine⟨rfl,?_⟩;have j:Sp.stepX im inp T cells x f fs s= .go ⟨{f with zv:=dp f.zv,pc:=if(dv f.zv).N=0 then x.b else f.pc+1}::fs,s⟩:=by simp[Sp.stepX,ho]
 have c:tkA 1 f.zv= .i n:=hn;rw[c]at a;rw[j,hn];exact⟨rfl,_,_,_,_,_,cn,_,by omega,a⟩
theorem Fi (h:At w0 w im T mb tx tv bw cells ans inp r rs f fs s vo vb gs fv cn sn b x st l) (ho:x.op.toNat=108):
  Calls prog 88 #[.pointer (some ⟨mb,0,none⟩)] w (λen w'=> ∃e,en= .returned (.int .i64 e)/\ed w0 im T mb tx tv bw cells ans inp cn (Sp.stepX im inp T cells x f fs s) e w'):=by
 have a:=h.fit.wf.bod b (a9 h.top.bd);have j:=a.code x (a9 h.top.ins);have hb:=j.loc (Or.inl ho)
 have n:f.loc.length=b.zy.length:=by
  obtain⟨t,ht,_⟩:=h.fit.tab h.top.bd;have m:=(dD ht).1 h.top.st;rw[h.top.loc.len,((h.fit.wt f.q b t h.top.bd ht).2 f.pc st l m).1.2.2]
 have i:(aB (im.zq.map toX) im.zx (aJ x).op (aJ x).cls (aJ x).num (aR im.zx r.b).ans).length=0:=by simp[aB,aJ,ho]
 have p:f.loc[x.b]?=some (f.loc.getD x.b .z):=by
  rw[bM,aM (show x.b<f.loc.length by omega)]
  rfl
 have g:(aH (im.zq.map toX) im.zx (aJ x).op (aJ x).cls (aJ x).num (aR im.zx r.b).zy).toNat≠0:=by
  have e:aH (im.zq.map toX) im.zx (aJ x).op (aJ x).cls (aJ x).num (aR im.zx r.b).zy=cC r.b.zy x.b:=by
   show aH _ _ x.op _ x.b _=_
   unfold aH;rw[if_neg (by omega),if_pos ho]
   rfl
  rw[e,h.rb]
  have hm:b.zy.getD x.b 0∈b.zy:=by
   rw[bM,aM hb];exact cS hb
  have ht:=a.loc.2 _ hm;unfold cC;rw[if_pos hb];clear hm;generalize b.zy.getD x.b 0=c at ht⊢;simp[cY,aQ]at ht;omega
 refine jS (λe w'=>ed w0 im T mb tx tv bw cells ans inp cn (Sp.stepX im inp T cells x f fs s) e w') h.mc h.tx h.hcl h.nsg (by have:=h.sml.1;omega) h.h100 (aJ x) h.hx (by omega) (by omega) (λY sv' hM=> .inl ⟨show x.op.toNat≠99/\x.op.toNat≠116/\x.op.toNat≠106/\x.op.toNat≠102 by omega,?_⟩);rw[i]at hM⊢;refine(E3 hM h.tx h.hcl h.nsg (by have:=h.sml.1;simp[tkR];omega) (by have:=h.sml.2;simp;omega) (aJ x) _ _ _ ho p g).mono ?_;rintro en w1 ⟨rfl,r',d⟩;refine⟨0,rfl,?_⟩;have k:Sp.stepX im inp T cells x f fs s= .go ⟨f.on (f.zv++ [f.loc.getD x.b .z])::fs,s⟩:=by simp[Sp.stepX,ho]
 rw[k];exact⟨rfl,_,_,_,_,_,cn,_,by omega,d⟩
theorem At.ll (h:At w0 w im T mb tx tv bw cells ans inp r rs f fs s vo vb gs fv cn sn b x st l):f.loc.length=b.zy.length:=by rw[h.top.loc.len,BC h.fit h.top]
theorem At.wx (h:At w0 w im T mb tx tv bw cells ans inp r rs f fs s vo vb gs fv cn sn b x st l):WfX im.zq im.zx.length b.zy.length x:=(h.fit.wf.bod b (a9 h.top.bd)).code x (a9 h.top.ins)
theorem Fj (h:At w0 w im T mb tx tv bw cells ans inp r rs f fs s vo vb gs fv cn sn b x st l) (ho:x.op.toNat=115):
  Calls prog 88 #[.pointer (some ⟨mb,0,none⟩)] w (λen w'=> ∃e,en= .returned (.int .i64 e)/\ed w0 im T mb tx tv bw cells ans inp cn (Sp.stepX im inp T cells x f fs s) e w'):=by
 obtain⟨st',l',i⟩:=h.eff;obtain⟨k,j,_,_⟩:=mY (by omega) i;obtain⟨_,n,_⟩:=io (by omega) j;have hl:=h.top.zv.len;have hb:=h.wx.loc (Or.inr ho);have m:=h.ll;have d:(aB (im.zq.map toX) im.zx (aJ x).op (aJ x).cls (aJ x).num (aR im.zx r.b).ans).length=1:=by simp[aB,aJ,ho]
 have c:(aH (im.zq.map toX) im.zx (aJ x).op (aJ x).cls (aJ x).num (aR im.zx r.b).zy).toNat=0:=by
  show(aH _ _ x.op _ x.b _).toNat=0
  simp[aH,ho]
 refine jS (λe w'=>ed w0 im T mb tx tv bw cells ans inp cn (Sp.stepX im inp T cells x f fs s) e w') h.mc h.tx h.hcl h.nsg (by have:=h.sml.1;omega) h.h100 (aJ x) h.hx (by omega) (by omega) (λY sv' hM=> .inl ⟨show x.op.toNat≠99/\x.op.toNat≠116/\x.op.toNat≠106/\x.op.toNat≠102 by omega,?_⟩);rw[d]at hM⊢;refine(E4 hM h.tx h.hcl h.nsg (Nat.le_trans (yU 1 f.zv) (by have:=h.sml.1;omega)) (by have:=h.sml.2;simp;omega) (aJ x) _ _ ho (by show x.b<f.loc.length;omega) c).mono ?_;rintro en w1 ⟨rfl,r',a⟩;refine⟨0,rfl,?_⟩;have g:Sp.stepX im inp T cells x f fs s= .go ⟨{f.on (dp f.zv)with loc:=f.loc.set x.b (dv f.zv)}::fs,s⟩:=by simp[Sp.stepX,ho]
 rw[g];exact⟨rfl,_,_,_,_,_,cn,_,by omega,a⟩
theorem Fk (h:At w0 w im T mb tx tv bw cells ans inp r rs f fs s vo vb gs fv cn sn b x st l) (ho:x.op.toNat=101):
  Calls prog 88 #[.pointer (some ⟨mb,0,none⟩)] w (λen w'=> ∃e,en= .returned (.int .i64 e)/\ed w0 im T mb tx tv bw cells ans inp cn (Sp.stepX im inp T cells x f fs s) e w'):=by
 obtain⟨st',l',p⟩:=h.eff;obtain⟨k,g,_,_⟩:=gC (by omega) (by omega) p;obtain⟨_,q,n,m⟩:=qy (by rw[ho]at g;exact g);have hl:=h.top.zv.len;have a:=((h.top.zv.t2 q).toRef m).ref m;have c:=((h.top.zv.t1 (by omega)).toRef n).ref n
 have d:xO (kK f.zv)=xO (dv f.zv)↔kK f.zv=dv f.zv:=by
  refine⟨λe=> ?_,λe=>by rw[e]⟩;obtain a| ⟨j,_,a,_⟩:=a<;>rcases c with c| ⟨j',_,c,_⟩<;>rw[a,c]at e⊢ <;>simp only[xO]at e
  .omega
  .omega
  .have:j=j':=by omega
   rw[this]
 refine h.doP 2 (by simp[aB,ho]) (by omega) (by omega) (by omega) (by simp[aH,ho]) (.ok (if kK f.zv=dv f.zv then .i 1 else .i 0) [] s) (λP' X hX=> ?_) _ (by simp[srP,Sp.stepX,ho,tkR]);rw[ef ho];exact Ee hX _ _ d _ _ _ _ _ _
theorem Fl (h:At w0 w im T mb tx tv bw cells ans inp r rs f fs s vo vb gs fv cn sn b x st l) (h4:s.heap.length<=4000) (ho:x.op.toNat=103):
  Calls prog 88 #[.pointer (some ⟨mb,0,none⟩)] w (λen w'=> ∃e,en= .returned (.int .i64 e)/\ed w0 im T mb tx tv bw cells ans inp cn (Sp.stepX im inp T cells x f fs s) e w'):=by
 obtain⟨st',l',y⟩:=h.eff;obtain⟨q,_,_⟩:=bY (by omega) (by omega) y;simp[bv,arith,ho]at q;obtain⟨t,v⟩:=gz q;have hl:=h.top.zv.len;have hcl:=h.wx.cls (by omega);have p:=h.fit.wf.nc;obtain⟨g,n⟩:=eX (a:=x.a) (by omega);have A:=((h.top.zv.t1 t).sub h.fit.wf.cls h.fit.wf.nc h.mt.ht v).toRef (cF g)
 have j:(aH (im.zq.map toX) im.zx x.op (aJ x).cls x.b (aR im.zx r.b).zy).toNat≠0:=by
  have i:=h.wx.fld (by omega);have d:=oQ h.fit.wf hcl i;have ec:(aJ x).cls=UInt8.ofNat (65+x.a):=by simp[aJ,ho]
  unfold aH;rw[if_neg (by omega),if_neg (by omega),if_neg (by omega),if_neg (by omega),if_pos ho,ec,lZ p hcl];unfold cC;rw[if_pos (show x.b<(bF im.zq x.a).length from i)];have d:cY im.zq.length ((bF im.zq x.a).getD x.b 0)=true:=d;generalize (bF im.zq x.a).getD x.b 0=c at d⊢;simp[cY,aQ]at d;omega
 have m:(aB (im.zq.map toX) im.zx x.op (aJ x).cls x.b (aR im.zx r.b).ans).length=1:=by simp[aB,ho]
 obtain e| ⟨k,ob,e,hk,_,hu⟩:=A.ref (cF g)
 .refine h.doP 1 m (by omega) (by omega) (by omega) j (.bad 6 s.out) (λP' X hX=> ?_) _ (by simp[srP,Sp.stepX,ho,e]);rw[ef ho];simp only[tkA,e];exact Cn hX h4 _ _ _ _ _ _ _
 .rw[n]at hu;obtain⟨g1,g2⟩:=mq h.fit h.mt.ht hcl (h.wx.fld (by omega)) hk hu;refine h.doP 1 m (by omega) (by omega) (by omega) j (.ok (ob.fs.getD x.b .z) [] s) (λP' X hX=> ?_) _ (by simp[srP,Sp.stepX,ho,e,tkR,(Ev.at hk).2]);rw[ef ho];simp only[tkA,e];exact Co hX h4 hk _ _ _ _ _ _ _ _ (by rw[bM,aM g1];rfl)
theorem Fn (h:At w0 w im T mb tx tv bw cells ans inp r rs f fs s vo vb gs fv cn sn b x st l) (h4:s.heap.length<=4000) (ho:x.op.toNat=112):
  Calls prog 88 #[.pointer (some ⟨mb,0,none⟩)] w (λen w'=> ∃e,en= .returned (.int .i64 e)/\ed w0 im T mb tx tv bw cells ans inp cn (Sp.stepX im inp T cells x f fs s) e w'):=by
 obtain⟨st',l',q⟩:=h.eff;obtain⟨m,_,_⟩:=bY (by omega) (by omega) q;simp[bv,arith,ho]at m;obtain⟨n,p,y⟩:=i8 m;have hl:=h.top.zv.len;have hcl:=h.wx.cls (by omega);have t:=h.fit.wf.nc;obtain⟨c,j⟩:=eX (a:=x.a) (by omega);have v:=((h.top.zv.t2 n).sub h.fit.wf.cls h.fit.wf.nc h.mt.ht p).toRef (cF c);have d:(aH (im.zq.map toX) im.zx x.op (aJ x).cls x.b (aR im.zx r.b).zy).toNat=0:=by simp[aH,ho]
 have g:(aB (im.zq.map toX) im.zx x.op (aJ x).cls x.b (aR im.zx r.b).ans).length=2:=by simp[aB,ho]
 obtain e| ⟨k,ob,e,hk,_,hu⟩:=v.ref (cF c)
 .refine h.doN 2 g (by omega) (by omega) (by omega) d (.bad 6 s.out) (λP' X hX=> ?_) _ (by simp[srN,Sp.stepX,ho,e]);rw[ef ho];simp only[tkA,e];exact Cp hX h4 _ _ _ _ _ _ _
 .rw[j]at hu;obtain⟨g1,g2⟩:=mq h.fit h.mt.ht hcl (h.wx.fld (by omega)) hk hu;refine h.doN 2 g (by omega) (by omega) (by omega) d (.ok (.i 0) [] (s.put k x.b (dv f.zv))) (λP' X hX=> ?_) _ (by simp[srN,Sp.stepX,ho,e,tkR]);rw[ef ho];simp only[tkA,tkB,e];exact Cq hX h4 hk _ _ _ _ _ _ _ g1
theorem Fo (h:At w0 w im T mb tx tv bw cells ans inp r rs f fs s vo vb gs fv cn sn b x st l) (h4:s.heap.length<=4000) (ho:x.op.toNat=120):
  Calls prog 88 #[.pointer (some ⟨mb,0,none⟩)] w (λen w'=> ∃e,en= .returned (.int .i64 e)/\ed w0 im T mb tx tv bw cells ans inp cn (Sp.stepX im inp T cells x f fs s) e w'):=by
 obtain⟨st',l',q⟩:=h.eff;obtain⟨k,d,_,_⟩:=gC (by omega) (by omega) q;obtain⟨_,v,j⟩:=io (by omega) d;have j:=j ho;have hl:=h.top.zv.len;have hcl:=h.wx.cls (by omega);have n:=h.fit.wf.nc;have t:=(h.top.zv.t1 v).toRef j;have ec:(aJ x).cls=UInt8.ofNat (65+x.a):=by simp[aJ,ho]
 have g:(aH (im.zq.map toX) im.zx x.op (aJ x).cls x.b (aR im.zx r.b).zy).toNat≠0:=by
  have:=fZ (a:=x.a) (by omega);unfold aH;rw[if_neg (by omega),if_neg (by omega),if_pos (by omega),ec,this];omega
 have i:(aB (im.zq.map toX) im.zx x.op (aJ x).cls x.b (aR im.zx r.b).ans).length=1:=by simp[aB,ho]
 have c:dp f.zv++ [dv f.zv]=f.zv:=oR (by omega);obtain e| ⟨k,ob,e,d,_,hu⟩:=t.ref j
 .refine h.doP 1 i (by omega) (by omega) (by omega) g (.ok .z [] s) (λP' X hX=> ?_) _ ?_
  .rw[ef ho];simp only[tkA,e];exact Cr hX h4 _ _ _ _ _ _ _
  .rw[e]at c;simp[srP,Sp.stepX,ho,e,tkR,c]
 .have p:=h.mt.ht.cls k ob d;have m:=sD h.fit.wf.cls n hcl p;refine h.doP 1 i (by omega) (by omega) (by omega) g (if dT (im.zq.map toX) (UInt8.ofNat (65+x.a)) (im.zq.map toX).length (UInt8.ofNat (65+ob.cls))=true then .ok (.o k) [] s else .bad 8 s.out) (λP' X hX=> ?_) _ ?_
  .rw[ef ho,ec];simp only[tkA,e];exact Cs hX h4 d (im.zq.map toX) h.hcl h.tx.cls _ (fZ (by omega)) _ _ _ _ _ _ _
  .rw[e]at c;rw[m]
   by_cases hb:cB im.zq 5 ob.cls x.a=true
   .simp[srP,Sp.stepX,ho,e,tkR,c,(Ev.at d).1,hb]
   .simp[srP,Sp.stepX,ho,e,tkR,c,(Ev.at d).1,hb]
theorem Fp (h:At w0 w im T mb tx tv bw cells ans inp r rs f fs s vo vb gs fv cn sn b x st l) (ho:x.op.toNat=116):
  Calls prog 88 #[.pointer (some ⟨mb,0,none⟩)] w (λen w'=> ∃e,en= .returned (.int .i64 e)/\ed w0 im T mb tx tv bw cells ans inp cn (Sp.stepX im inp T cells x f fs s) e w'):=by
 obtain⟨st',l',m⟩:=h.eff;obtain⟨i,_,_⟩:=bY (by omega) (by omega) m;simp[bv,arith,ho]at i;have p:1<=st.length:=by split at i<;>exact(gz i).1
 have hl:=h.top.zv.len;have j:(aB (im.zq.map toX) im.zx (aJ x).op (aJ x).cls (aJ x).num (aR im.zx r.b).ans).length=1:=by simp[aB,aJ,ho]
 have k:tkA 1 f.zv=dv f.zv:=rfl;refine jS (λe w'=>ed w0 im T mb tx tv bw cells ans inp cn (Sp.stepX im inp T cells x f fs s) e w') h.mc h.tx h.hcl h.nsg (by have:=h.sml.1;omega) h.h100 (aJ x) h.hx (by omega) (by omega) (λY sv' hM=> .inr (.inr (.inl ⟨ho,?_⟩)));rw[j]at hM⊢;have a:=yT h.fit h.mt
 match fs,rs,hM,a with
 | [],[],hM,_=>
  refine(E9 hM _).mono ?_;rintro en w1 ⟨rfl,c⟩;refine⟨rfl,?_⟩;have d:Sp.stepX im inp T cells x f [] s= .fin (dv f.zv) s.out:=by simp[Sp.stepX,ho]
  rw[d];exact⟨rfl,s,_,_,_,_,_,_,rfl,c⟩
 | [],q::rs2,hM,_=>exact hM.fr.2.1.elim
 |g::fs2,[],hM,_=>exact hM.fr.2.1.elim
 |g::fs2,q::rs2,hM,a=>
  have t:=a.1 g (List.mem_cons_of_mem _ (List.mem_cons_self ..));have n:=a.2 g (List.mem_cons_of_mem _ (List.mem_cons_self ..));refine(Fa hM (by omega) (by omega) _).mono ?_;rintro en w1 ⟨rfl,q',c⟩;refine⟨rfl,?_⟩;have d:Sp.stepX im inp T cells x f (g::fs2) s= .go ⟨g.on (g.zv++ [dv f.zv])::fs2,s⟩:=by simp[Sp.stepX,ho]
  rw[d];exact⟨rfl,_,_,_,_,_,cn,_,by omega,c⟩
theorem Fq (h:At w0 w im T mb tx tv bw cells ans inp r rs f fs s vo vb gs fv cn sn b x st l) (h4:s.heap.length<=4000) (hcn:cn<=100000) (ho:x.op.toNat=110):
  Calls prog 88 #[.pointer (some ⟨mb,0,none⟩)] w (λen w'=> ∃e,en= .returned (.int .i64 e)/\ed w0 im T mb tx tv bw cells ans inp cn (Sp.stepX im inp T cells x f fs s) e w'):=by
 have hcl:=h.wx.cls (by omega);have j:=h.fit.wf.nc;have ec:(aJ x).cls=UInt8.ofNat (65+x.a):=by simp[aJ,ho]
 have c:=lZ j hcl;have A:=lN h.fit.wf.cls j (UInt8.ofNat (65+x.a));have m:=(yT h.fit h.mt).1;have q:=AW h.fit.wf h.mt.ht
 have p:(aH (im.zq.map toX) im.zx (aJ x).op (aJ x).cls (aJ x).num (aR im.zx r.b).zy).toNat≠0:=by
  have:=fZ (a:=x.a) (by omega)
  show(aH _ _ x.op _ x.b _).toNat≠0
  unfold aH;rw[if_neg (by omega),if_neg (by omega),if_pos (by omega),ec,this];omega
 have v:(aB (im.zq.map toX) im.zx (aJ x).op (aJ x).cls (aJ x).num (aR im.zx r.b).ans).length=0:=by simp[aB,aJ,ho]
 refine jS (λe w'=>ed w0 im T mb tx tv bw cells ans inp cn (Sp.stepX im inp T cells x f fs s) e w') h.mc h.tx h.hcl h.nsg (by have:=h.sml.1;omega) h.h100 (aJ x) h.hx (by omega) (by omega) (λY sv' g=> .inl ⟨show x.op.toNat≠99/\x.op.toNat≠116/\x.op.toNat≠106/\x.op.toNat≠102 by omega,?_⟩);rw[v]at g⊢;have g:McQ w0 Y im T mb tx tv bw cells ans inp ({r with sv:=sv'}::rs) (f::fs) s vo vb gs fv cn sn:=g;have i:=λ(Z:World) (hZ:B_ Y Z)=>ww (g.new hZ) h4 hcn m h.mt.dep (im.zq.map toX) h.hcl h.tx.cls q (aJ x).cls (by rw[ec];omega)
 have t:(bV (im.zq.map toX) (aJ x).cls).length=(de im.zq x.a).length:=by rw[ec,c];simp[de,bF]
 rw[t]at i
 by_cases hr:fk s.heap (jV T (f::fs))+(1+(de im.zq x.a).length)<=cells
 .rw[decide_eq_true hr]at i;refine(E6 g h.tx h.hcl h.nsg (by have:=h.sml.1;omega) (by have:=h.sml.2;omega) (aJ x) _ _ ho p (.ok (.o s.heap.length) [] {s with heap:=s.heap++ [⟨x.a,de im.zq x.a⟩]}) i (λP' X sn' hX=> ?_)).mono ?_
  .rw[ef ho];exact Ef hX h4 (im.zq.map toX) h.hcl h.tx.cls ⟨x.a,de im.zq x.a⟩ (bF im.zq x.a) _ _ _ _ _ _ _ _ (by rw[ec];exact fZ (by omega)) (by rw[ec];exact c) (by rw[<-c];omega) rfl
  .rintro en w1 ⟨u,e,s',vo',vb',gs',fv',sn',r',y,rfl,z⟩;obtain⟨rfl,rfl,rfl⟩:=y;refine⟨0,rfl,?_⟩
   have k:Sp.stepX im inp T cells x f fs s= .go ⟨f.on (f.zv++ [.o s.heap.length])::fs,{s with heap:=s.heap++ [⟨x.a,de im.zq x.a⟩]}⟩:=by
    have d: ¬(fk s.heap (jV T (f::fs))+1+(de im.zq x.a).length>cells):=by omega
    simp only[Sp.stepX,ho];simp[d]
   rw[k];exact⟨rfl,_,_,_,_,_,cn+1,_,by omega,z⟩
 .rw[decide_eq_false hr]at i;refine(AV g (aJ x) _ _ ho i).mono ?_;rintro en w1 ⟨rfl,sn',n⟩;refine⟨5,rfl,?_⟩
  have k:Sp.stepX im inp T cells x f fs s= .bad 9 s.out:=by
   have d:fk s.heap (jV T (f::fs))+1+(de im.zq x.a).length>cells:=by omega
   simp only[Sp.stepX,ho];simp[d]
  rw[k];exact⟨rfl,_,_,s,_,_,_,_,_,_,rfl,n⟩
theorem Fs (h:At w0 w im T mb tx tv bw cells ans inp r rs f fs s vo vb gs fv cn sn b x st l) (h4:s.heap.length<=4000) (base:Nat) (L:List (Nat×List St)) (hXT:fV w0 base tv L) (hLT:L.map (·.2)=T) (ho:x.op.toNat=99):
  Calls prog 88 #[.pointer (some ⟨mb,0,none⟩)] w (λen w'=> ∃e,en= .returned (.int .i64 e)/\ed w0 im T mb tx tv bw cells ans inp cn (Sp.stepX im inp T cells x f fs s) e w'):=by
 obtain⟨st',l',he⟩:=h.eff;obtain⟨hf,_,_⟩:=bY (by omega) (by omega) he;simp[bv,arith,ho]at hf;obtain⟨f1,f2,f3⟩:=i8 hf;have hl:=h.top.zv.len;have hcl:=h.wx.cls (by omega);have v:=h.wx.sig ho;have G:=h.fit.wf.nc;have F:b∈im.zj:=a9 h.top.bd;have Q:x∈b.code:=a9 h.top.ins;obtain⟨i,B⟩:=eX (a:=x.a) (by omega);have hv:=((h.top.zv.t2 f1).sub h.fit.wf.cls h.fit.wf.nc h.mt.ht f2).toRef (cF i);have J:(aB (im.zq.map toX) im.zx (aJ x).op (aJ x).cls (aJ x).num (aR im.zx r.b).ans).length=2:=by simp[aB,aJ,ho]
 have X:=h.mt.dep;refine jS (λe w'=>ed w0 im T mb tx tv bw cells ans inp cn (Sp.stepX im inp T cells x f fs s) e w') h.mc h.tx h.hcl h.nsg (by have:=h.sml.1;omega) h.h100 (aJ x) h.hx (by omega) (by omega) (λY sv' hM=> .inr (.inl ⟨ho,?_⟩));rw[J]at hM⊢;have eA:tkA 2 f.zv=kK f.zv:=rfl;have eB:tkB 2 f.zv=dv f.zv:=rfl;rw[eA,eB];obtain e| ⟨k,ob,e,hk,_,hu⟩:=hv.ref (cF i)
 .rw[e];refine(wn hM (aJ x).num .z (dv f.zv) (-1) 2 (by decide) (λZ hZ=>sB (hM.new hZ).wd h4 _ _)).mono ?_;rintro en w1 ⟨rfl,A⟩;refine⟨2,rfl,?_⟩;have g:Sp.stepX im inp T cells x f fs s= .bad 6 s.out:=by simp[Sp.stepX,ho,e]
  rw[g];exact⟨rfl,_,_,s,_,_,_,_,_,_,rfl,hM.new A⟩
 .rw[e];rw[B]at hu;have t:=h.mt.ht.cls k ob hk;have c:=λ(Z:World) (hZ:B_ Y Z)=>sC (hM.new hZ).wd h4 hk (im.zq.map toX) (im.zj.map (aR im.zx)) h.hcl (by rw[bZ];have:=h.fit.wf.nb;omega) h.tx.cls h.tx.bod (UInt8.ofNat (65+ob.cls)) (fZ (by omega)) (aJ x).num (fs.length+1)
  by_cases hd:12<=fs.length+1
  .rw[if_pos hd]at c;refine(wn hM (aJ x).num (.o k) (dv f.zv) (-1) 6 (by decide) c).mono ?_;rintro en w1 ⟨rfl,A⟩;refine⟨6,rfl,?_⟩;have g:Sp.stepX im inp T cells x f fs s= .bad 10 s.out:=by simp only[Sp.stepX,ho,e];simp[hd]
   rw[g];exact⟨rfl,_,_,s,_,_,_,_,_,_,rfl,hM.new A⟩
  .rw[if_neg hd]at c;have O:=((h.top.zv.t1 (by omega)).sub h.fit.wf.cls h.fit.wf.nc h.mt.ht f3).not45 (jL (yF h.fit.wf v).1);have n:=h.fit.lk b F x Q ho;obtain⟨c1,c2,c3,c4,c5⟩:=yE h.fit h.mt.ht hk hcl v hu n O;have a0:=lS (bs:=im.zj) (m:=x.b) h.fit.wf.cls 4 (x:=ob.cls) (y:=x.a) (by omega) (by omega) hu n
   have E:gM (im.zq.map toX) (im.zj.map (aR im.zx)) x.b (im.zq.map toX).length (UInt8.ofNat (65+ob.cls))=cO im.zq im.zj x.b 5 ob.cls:=by
    rw[bZ]
    exact jK h.fit.wf.cls G (λb' hb'=>by
     obtain⟨S,_⟩ | ⟨S,q2,q3,_⟩:=(h.fit.wf.bod b' hb').cls
     .exact Or.inl S
     .exact Or.inr ⟨S,by omega,q3⟩) x.b im.zq.length 5 ob.cls t t (by omega)
   have j:s.cls k=ob.cls:=(Ev.at hk).1;rw[j]at c1;obtain⟨q,H⟩: ∃q:Nat,cO im.zq im.zj x.b 5 ob.cls=q:=⟨(cO im.zq im.zj x.b 5 ob.cls).toNat,by omega⟩;have p:(aJ x).num=x.b:=rfl;rw[p,E,H]at c;have d:im.zj[q]?=some (aZ im x k s):=by rw[H]at c1;exact c1
   have P:=h.fit.wf.bod _ c2;obtain⟨tl,M⟩:=h.fit.lc _ c2 c4
   have C:L.length=im.zj.length:=by
    have:=congrArg List.length hLT;rw[bZ,h.fit.len]at this;exact this
   have I:q<L.length:=by rw[C];exact(bn d).1
   refine(DT hM x.b (.o k) (dv f.zv) q base (aZ im x k s) L L[q] h.tx hXT hLT d (aM I) P.loc.1 (by rw[M];simp) (by have:=h.fit.wf.nb;omega) (by omega) c).mono ?_;rintro en w1 ⟨rfl,r',D⟩;refine⟨0,rfl,?_⟩
   have g:Sp.stepX im inp T cells x f fs s= .go ⟨⟨q,0,[],aO (aZ im x k s) [.o k,dv f.zv]⟩::{f with zv:=iA f.zv}::fs,s⟩:=by
    simp only[Sp.stepX,ho,e,j,H];simp;omega
   rw[g];exact⟨rfl,_,_,_,_,_,cn,_,by omega,D⟩
end
end
end Go.Proofs.YtpfkkmacakjmbaaGreatDoor
