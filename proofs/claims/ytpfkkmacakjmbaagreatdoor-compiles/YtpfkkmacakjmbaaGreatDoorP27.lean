import Derived.Test.YtpfkkmacakjmbaaGreatDoorP03
import Derived.Test.YtpfkkmacakjmbaaGreatDoorP08
import Derived.Test.YtpfkkmacakjmbaaGreatDoorP26
import Derived.Test.YtpfkkmacakjmbaaGreatDoorP23
set_option maxRecDepth 100000
set_option maxHeartbeats 6400000
set_option linter.all false
namespace Go.Proofs.YtpfkkmacakjmbaaGreatDoor
open Proofs.Tryz
section
open Go Go.RowKit Sp
theorem rm {w:World} {base:Nat} {v:Value} {l:L_} (h:BtB w base v l):(convert 112 9 v).run prog w= .ok (.string ⟨l.toArray⟩) w:=by
 obtain⟨ao,cap,rfl⟩:=ay h
 cases ao with
 |none=>
  have hm:l.length=0:=by
   obtain h'|h':=Nat.eq_zero_or_pos l.length
   .exact h'
   .obtain⟨g,a,_⟩:=aE h h'
    cases a
  have c:l=[]:=List.length_eq_zero_iff.1 hm;subst c;have d:prog.underlying 112=some (.slice 5):=by kernel_rfl
  have f:prog.underlying 9=some .string:=by kernel_rfl
  have i:prog.underlying 5=some (.int .u8):=by kernel_rfl
  have n:=run_convert_bytes_string (P:=prog) w 112 9 5 none 0 cap d i f;refine n.trans ?_;simp[Conv.bytesToString]
  rfl
 |some ad=>
  refine(?_ :(convert 112 9 (.slice (some ad) l.length cap)).run prog w=_);refine run_convert_bytes_back w 112 9 5 ad cap l (by kernel_rfl) (by kernel_rfl) (by kernel_rfl) ?_;intro j k;obtain⟨g,a,p,q,hc⟩:=aE h (by omega);have b:=Option.some.inj a;rw[b];have m:=hc j _ (jN k);have e:(⟨g,0,none⟩:Addr).add j=⟨g,j,none⟩:=by simp[Addr.add];exact λh=>h.symm
  rw[e,m];simp[List.getD,k]
end
section
open Go Go.RowKit Sp
attribute [local go_sem ↓] eY eZ
theorem yE (W:World) (n:Int) (c:UInt8) (hc:(c.toNat:Int)=n) (g:Nat) (hg:W.heap.size=g):BtB (W.alloc (.cells #[.int .u8 n] 5)) 0 (.slice (some ⟨g,0,none⟩) 1 1) [c]:=by
 subst hg;have h:=BtB.lit W 0 (Nat.zero_le _) [c] (by simp);simp only[a7,List.map_cons,List.map_nil,dK,hc]at h;exact h
theorem xQ:(prog.info? 4).map (λi=>(i.zero,i.size,i.bytes))=some (some (.bool false),1,1):=by kernel_rfl
theorem Cu (n:Nat):madeCells #[.bool false] n=((List.replicate n false).map Value.bool).toArray:=by
 apply Array.ext
 .rw[size_madeCells];simp
 .intro k a b;have e:k % 1=0:=by omega
  simp[madeCells,e]
def DH (n:Nat):Array Value:=((List.replicate n false).map Value.bool).toArray
end
section
open Go Go.RowKit Sp
theorem Cv {w:World} {g k:Nat} {c c':Array Value} {t t':TypeId} {fr fr':Nat×Nat} (hk:w.heap[k]?=some (.cells c' t' fr')) (hg:w.heap[g]?=some (.cells c t fr)) (h:t≠t'):k≠g:=λe=>by
 subst e;rw[hk]at hg;injection hg with hg;injection hg with _ h2;exact h h2.symm
end
section
open Go Go.RowKit Sp
attribute [local go_sem ↓] eY eZ
structure NB (w X:World):Prop where
 but:B_ w X
 nb: ∀k,w.heap.size<=k->k<X.heap.size-> ∀c fz,X.heap[k]?≠some (.cells c 5 fz)
theorem NB.refl (w:World):NB w w:=⟨bf _ _,λk h1 h2=>by omega⟩
theorem NB.alloc {w X:World} {c:Array Value} {t:Nat} (h:NB w X) (ht:t≠5):NB w (X.alloc (.cells c t)):=by
 refine⟨h.but.trans (aa _ _ _),λk h1 a c' fz e=> ?_⟩;have a:k<X.heap.size+1:=by simpa using a
 obtain h3|h3:=gC k X.heap.size
 .rw[(aa (λ_=>False) X _).block k h3 (λh=>h)]at e;exact h.nb k h1 h3 c' fz e
 .have:k=X.heap.size:=by omega
  subst this;rw[aO]at e
  cases e
  exact ht rfl
theorem fq {fn:Func} {Rr:Ending->World->Prop} {a:Act} {w:World} {c f:Nat} {u v:Value} (hf:fn.results=#[.tmp c,.tmp f]) (hd:a.defers=[]) (hc:a.tmps.getD c undef=u) (he:a.tmps.getD f undef=v) (hR:Rr (.returned (.tuple #[u,v])) w):bodyPost prog fn Rr .ret a w:=by
 refine cA (v:= .tuple #[u,v]) ?_ hd hR;have b:a.tmps[c]?.getD undef=u:=by simpa using hc
 have d:a.tmps[f]?.getD undef=v:=by simpa using he
 simp[results,hf,b,d,go_sem]
theorem F0 {fn:Func} {Rr:Ending->World->Prop} {a:Act} {w:World} {c r:Nat} {v0 v1 v2 v3 v4:Value} (hf:fn.results=#[.cell c 219]) (hd:a.defers=[]) (hc:a.tmps.getD c undef= .pointer (some ⟨r,0,none⟩))
  (h0:w.heap[r]?=some (.cells #[v0,v1,v2,v3,v4] 219)) (hR:Rr (.returned (.agg #[v0,v1,v2,v3,v4])) w):bodyPost prog fn Rr .ret a w:=by
 have r0:=ce0 h0;have d:=ce1 h0;have e:=ce2 h0;have f:=ce3 h0;have g:=ce4 h0;refine cA (v:= .agg #[v0,v1,v2,v3,v4]) ?_ hd hR;have b:a.tmps[c]?.getD undef= .pointer (some ⟨r,0,none⟩):=by simpa using hc
 simp[results,hf,b,go_sem,r0,d,e,f,g]
def gn (x:XIt):Value:= .agg #[.int .i64 x.place,.int .u8 x.op.toNat,.int .u8 x.cls.toNat,.int .i64 x.num,.slice x.pa x.pn x.pc]
theorem xR (c:UInt8) (m:Nat) (an:UInt8) (vl vi:Value) (its:List XIt) (i:Nat) (x:XIt) (w:World) (hI:ItB w 0 vi its) (hx:its[i]?=some x) (hl:its.length<=1000):
  Calls prog 152 #[.agg #[.int .u8 c.toNat,.int .i64 m,.int .u8 an.toNat,vl,vi],.int .i64 i] w λen w'=>en= .returned (gn x)/\NB w w':=by
 have j:=(bc hx).1;unfold ItB at hI;obtain⟨ai,ci,rfl⟩:=ay hI;obtain⟨g,rfl,b,d,a⟩:=aE hI (by omega);have l:w.cell? ⟨g,i*5,none⟩=some _:=a _ _ (bq (k:=0) hx (by omega));have n:w.cell? ⟨g,i*5+1,none⟩=some _:=a _ _ (bq (k:=1) hx (by omega));have p:w.cell? ⟨g,i*5+2,none⟩=some _:=a _ _ (bq (k:=2) hx (by omega));have q:w.cell? ⟨g,i*5+3,none⟩=some _:=a _ _ (bq (k:=3) hx (by omega));have r:w.cell? ⟨g,i*5+4,none⟩=some _:=a _ _ (bq (k:=4) hx (by omega));have e: ¬((i:Int)<0):=by omega
 have f: ¬((its.length:Int)<=(i:Int)):=by omega
 have h:(i:Int)<(its.length:Int):=by omega
 unfold gn;clear a hx hI;generalize its.length=ni at*
 go_in
 go_wp2_with fail;exact F0 results152 rfl rfl (aB (by simp) _) ⟨rfl,((NB.refl w).alloc (by decide)).alloc (by decide)⟩
end
section
open Go Go.RowKit Sp
theorem yF {a:Nat} (h:a<100):(UInt8.ofNat (65+a)).toNat=65+a:=by simp;omega
theorem wg {cs:List Cls} (hn:cs.length<=4) {a:Nat} (ha:a<cs.length):cD (cs.map toX) (UInt8.ofNat (65+a))=bI cs a:=by
 have b:=yF (a:=a) (by omega);have c:aK cs.length (UInt8.ofNat (65+a))=true:=by simp[aK];omega
 unfold cD;rw[eF,c,if_pos rfl,b,show 65+a-65=a from by omega];simp[bI,toX,Option.map_map,Function.comp_def]
end
end Go.Proofs.YtpfkkmacakjmbaaGreatDoor
