import Derived.Test.YtpfkkmacakjmbaaGreatDoorP27
import Derived.Test.YtpfkkmacakjmbaaGreatDoorP17
set_option maxRecDepth 100000
set_option maxHeartbeats 6400000
set_option linter.all false
namespace Go.Proofs.YtpfkkmacakjmbaaGreatDoor
section
open Go Go.RowKit Sp
attribute [local go_sem ↓] eY eZ
def ro (p:V×UInt8):Bool:=decide (p.2.toNat≠45)
theorem wh {zs:List (V×UInt8)} {k:Nat} {u:V} {y:UInt8} {t:List V} (h:zs[k]?=some (u,y)) (ht:((zs.take k).filter ro).map (·.1)=t):((zs.take (k+1)).filter ro).map (·.1)=if y.toNat=45 then t else t++ [u]:=by
 obtain⟨b,a⟩:=bc h;rw[f7 b,List.filter_append,List.map_append,ht,a]
 by_cases e:y.toNat=45
 .rw[if_pos e];simp[ro,e]
 .rw[if_neg e];simp[ro,e]
section
variable (w:World) (fb d pc bl sg base:Nat) (ca:Option Nat) (X:cZ) (vl vi sv lv:Value) (zv loc:List V) (tab:List St)
theorem lY (vs:List V) (ts:L_):(dQ vs ts).length<=vs.length:=by
 unfold dQ;rw[eF];refine Nat.le_trans (List.length_filter_le _ _) ?_;rw[List.length_zip];omega
end
def pg (cs:List cd) (hp:List Ob):Prop:= ∀o∈hp,(∃a:UInt8,a.toNat=65+o.cls/\(cD cs a).length=o.fs.length)/\o.fs.length<=100/\ ∀u∈o.fs,lp hp.length u
section
variable {P:Nat->Prop} {w0 w w':World} {bw tx:Nat} {inp:ByteArray} {s:Ev} {vo vb:Value} {gs:List Nat} {fv:List Value} {cn:Int} {sn:Nat->Int}
theorem wi {hp:List Ob} {cs:List cd} (h:pg cs hp) (k:Nat):lq hp k<=101:=by
 unfold lq;rcases hk:hp[k]? with _|o
 .simp
 .have:=(h o (bn hk)).2.1;simp;omega
theorem xS (f:Nat->Nat) (b:Nat) (hf: ∀k,f k<=b): ∀l:List Nat,(l.map f).sum<=b*l.length
 | []=>by simp
 |k::l=>by
  have a:=xS f b hf l;have c:=hf k;simp only[List.map_cons,List.sum_cons,iU,Nat.mul_add,Nat.mul_one];omega
end
def xT (T:dC) (fs:List Fm):List V:=fs.flatMap (jI T)
theorem xU {T:dC} {fs:List Fm} (k:Nat):V.o k∈xT T fs↔je T fs k:=by
 unfold xT je;exact List.mem_flatMap
def DI (T:dC) (n:Nat) (fs:List Fm):Prop:= ∀f∈fs,(∃st lo,iP T f.q f.pc=some (st,lo))/\f.zv.length<=1000/\f.loc.length<=1000/\(∀t,T[f.q]?=some t->t.length<=100)/\ ∀u∈jI T f,lp n u
theorem xV (T:dC) (f:Fm):(jI T f).length<=f.zv.length+f.loc.length:=by
 unfold jI
 split
 .rw[aN];have:=lY f.zv (by assumption)
  rename_i s l _
  have a:=lY f.zv s;have b:=lY f.loc l;omega
 .simp
theorem wj {hp:List Ob} {vs:List V} {cs:List cd} (hob:pg cs hp): ∀(n i:Nat) (F:List Nat),vM hp vs i F->hp.length<=i+n-> ∃i' F',vM hp vs i' F'/\F'.length<=i'
 |0,i,F,h,hn=>⟨i,F,h,by have:=nZ h;omega⟩
 |n+1,i,F,h,hn=>by
  by_cases hlt:i<F.length
  .obtain⟨j,b⟩: ∃j,F[i]?=some j:=⟨_,aG hlt⟩;have a:=h.lt j (bn b);obtain⟨o,c⟩: ∃o,hp[j]?=some o:=⟨_,aG a⟩;exact wj hob n (i+1) _ (sL h b c (hob o (bn c)).2.2) (by omega)
  .exact⟨i,F,h,by omega⟩
theorem AA {hp:List Ob} {vs:List V} {cs:List cd} (hob:pg cs hp) (hv: ∀u∈vs,lp hp.length u) (h4:hp.length<=4000):fy hp (λk=>V.o k∈vs)<=404000:=by
 obtain⟨i,F,hw,hi⟩:=wj hob hp.length 0 _ (qR hv) (by omega);rw[vN hw hi];have a:=xS (lq hp) 101 (wi hob) F;have b:=nZ hw;omega
end
section
open Go Go.RowKit Sp
theorem D7 {cs:List Cls} {hp:List Ob} {t:UInt8} {v:V} (h:VT cs hp t v):lp hp.length v:=by
 cases v with
 |i n=>exact Or.inl ⟨n,rfl⟩
 |z=>exact Or.inr (Or.inl rfl)
 |o k=>
  obtain⟨_,ob,a,_⟩:=h;exact Or.inr (Or.inr ⟨k,rfl,(bc a).1⟩)
theorem AB {im:Img} (hw:WfI im) {hp:List Ob} (hh:HT im.zq hp):pg (im.zq.map toX) hp:=by
 intro o g;obtain⟨k,f,rfl⟩:=List.getElem_of_mem g;have a:hp[k]?=some hp[k]:=aG f;have hc:=hh.cls k _ a;have hn:=hw.nc;have hl:=hh.len k _ a;have b:=wg hw.nc hc;have c:=nQ hw.cls hw.nc (UInt8.ofNat (65+hp[k].cls));rw[b]at c;refine⟨⟨UInt8.ofNat (65+hp[k].cls),yF (by omega),by rw[b,hl]⟩,by omega,λu hu=> ?_⟩;obtain⟨j,d,e⟩:=List.getElem_of_mem hu;exact D7 (hh.fs k _ j u a (by rw[aG d,e]))
theorem sY {cs:List Cls} {hp:List Ob} {ts us:L_} {vs:List V} (h:STk cs hp ts vs) (hu: ∀j:Nat,j<vs.length->us[j]?=ts[j]?): ∀v∈dQ vs us,lp hp.length v:=by
 intro v hv;unfold dQ at hv;obtain⟨⟨a,t⟩,hm,rfl⟩:=List.mem_map.1 hv;obtain⟨i,ht⟩:=List.mem_filter.1 hm;obtain⟨j,g,e⟩:=List.getElem_of_mem i;have b:(vs.zip us)[j]?=some (a,t):=by rw[aG g,e]
 rw[List.getElem?_zip_eq_some]at b;have c:j<vs.length:=(bc b.1).1;have d:=h.at' j a b.1;have f:ts.getD j 0=t:=by rw[bH,<-hu j c,b.2];rfl
 rw[f]at d;exact D7 (d.not45 (by simpa using ht))
theorem wl {im:Img} {T:dC} (hF:Fit im T) {hp:List Ob} {g:Fm} {b:Bod} {x:Ins} {s l st:L_} (hb:im.zj[g.q]?=some b) (hx:b.code[g.pc]?=some x) (hs:iP T g.q g.pc=some (s,l)) (hst:STk im.zq hp st g.zv) (hp1: ∀j:Nat,j<g.zv.length->s[j]?=st[j]?) (hlen:st.length<=s.length) (hlo:STk im.zq hp l g.loc):
  ((∃st lo,iP T g.q g.pc=some (st,lo))/\g.zv.length<=1000/\g.loc.length<=1000/\(∀t,T[g.q]?=some t->t.length<=100)/\ ∀u∈jI T g,lp hp.length u)/\g.pc<=100:=by
 obtain⟨t,ht,k⟩:=hF.tab hb;have hw:=hF.wf.bod b (bn hb);have a:=hF.wt g.q b t hb ht;have c:=(dP ht).1 hs;obtain⟨i,h⟩:=a.2 g.pc s l c;have hn:=pX t;have d:=a.1;have e:=hw.len.2;have f:g.pc<b.code.length:=(bc hx).1;refine⟨⟨⟨s,l,hs⟩,by rw[hst.len];omega,by rw[hlo.len,i.2.2];have:=hw.loc.1;omega,λt' ht'=>by rw[ht]at ht';cases ht';omega,λu hu=> ?_⟩,by omega⟩;unfold jI at hu;rw[hs]at hu;obtain hu|hu:=gz hu
 .exact sY hst hp1 u hu
 .exact sY hlo (λ_ _=>rfl) u hu
theorem xW {s:L_} {n j:Nat} (h:j<(s.take n).length):s[j]?=(s.take n)[j]?:=by
 rw[List.getElem?_take,if_pos (by rw[List.length_take]at h;omega)]
theorem Cw {im:Img} {T:dC} (hF:Fit im T) {hp:List Ob} {b:Bod} {r:List Fm} (h:lm im T hp b r):DI T hp.length r/\ ∀g∈r,g.pc<=100:=by
 induction h with
 |main b hb=>exact⟨λf a=>(by cases a),λf a=>(by cases a)⟩
 |call b g r bg x s l hb hg hx ho hm hs h2 hst hlo hr ih=>
  have a:=wl hF hg hx hs hst (λj hj=>xW (by rw[<-hst.len];exact hj)) (by rw[List.length_take];omega) hlo;refine⟨λf' hf'=> ?_,λf' hf'=> ?_⟩
  .obtain rfl|hf':=List.mem_cons.1 hf'
   .exact a.1
   .exact ih.1 f' hf'
  .obtain rfl|hf':=List.mem_cons.1 hf'
   .exact a.2
   .exact ih.2 f' hf'
theorem yG {im:Img} {T:dC} (hF:Fit im T) {f:Fm} {rest:List Fm} {s:Ev} (h:MT im T f rest s):DI T s.heap.length (f::rest)/\ ∀g∈f::rest,g.pc<=100:=by
 obtain⟨b,x,st,l,a,d⟩:=h.top;have c:=wl hF a.bd a.ins a.st a.zv (λ_ _=>rfl) (bP _) a.loc;have hc:=Cw hF d;refine⟨λf' hf'=> ?_,λf' hf'=> ?_⟩
 .obtain rfl|hf':=List.mem_cons.1 hf'
  .exact c.1
  .exact hc.1 f' hf'
 .obtain rfl|hf':=List.mem_cons.1 hf'
  .exact c.2
  .exact hc.2 f' hf'
end
end Go.Proofs.YtpfkkmacakjmbaaGreatDoor
