import Derived.Test.YtpfkkmacakjmbaaGreatDoorP02
import Derived.Test.YtpfkkmacakjmbaaGreatDoorCards
import Derived.Test.YtpfkkmacakjmbaaGreatDoorTie
import Derived.ProofKit
import Derived.OpenShut
import Derived.Carry
import Derived.Deep.Slices
import Derived.Deep.DeepHandedRow
import Derived.Lib.LaidTab
set_option maxRecDepth 100000
set_option maxHeartbeats 6400000
set_option linter.unusedSimpArgs false
set_option linter.unusedVariables false
namespace Go.Proofs.YtpfkkmacakjmbaaGreatDoor
section
open Go Go.RowKit Sp Go.ChangeShapes Go.WideShapes Go.ChangeAt
theorem Ah:ownKnob Tryz.prog.godebug=none:=by kernel_rfl
theorem yT:laidOutB Tryz.prog=true:=by kernel_rfl
theorem yU:Tryz.prog.cellsOf 27=7:=by kernel_rfl
theorem pd:Tryz.prog.cellsOf 3=1:=by kernel_rfl
theorem sI:Tryz.prog.cellsOf 9=1:=by kernel_rfl
theorem wL: ∃f0 f1 f2 f3 f4 f5 f6:Field,Tryz.prog.underlying 27=some (.struct #[f0,f1,f2,f3,f4,f5,f6])∧
  (f0.type=3∧f0.offset=0)∧(f1.type=3∧f1.offset=1)∧(f2.type=3∧f2.offset=2)∧(f3.type=3∧f3.offset=3)∧
  (f4.type=9∧f4.offset=4)∧(f5.type=9∧f5.offset=5)∧(f6.type=9∧f6.offset=6):=
 ⟨_,_,_,_,_,_,_,Tryz.underlying27,⟨rfl,rfl⟩,⟨rfl,rfl⟩,⟨rfl,rfl⟩,⟨rfl,rfl⟩,⟨rfl,rfl⟩,⟨rfl,rfl⟩,⟨rfl,rfl⟩⟩
theorem yV {w:World} {a:Addr} {v:Value} (h:w.cell? a=some v):a.block<w.heap.size:=by
 rcases Nat.lt_or_ge a.block w.heap.size with h1|h1
 ·exact h1
 ·unfold World.cell? at h;rw[Array.getElem?_eq_none h1]at h;simp at h
section
variable {H:Type} {enc:TypeId×Value→H} {W:World}
/--What the reading of a script gives:it lies in memory as the walk wants it. -/
theorem qG {v:Value} {d:DataW H} {ps:List MemPlace} (h:DataW.Trod enc Tryz.prog W 0 (fun _=>true) true 22 v d ps) (hv:v.cells.toList=[v]):
  ∃ao n cap,v= .slice ao n cap∧zX W ao n:=by
 obtain⟨fuel,h⟩:=h;rcases Deep.open_slice Tryz.underlying22 h with⟨h0,_⟩ | ⟨a,len,cap,m,n,D,Pl,h0,hb,hl,hm,a3,_,hx⟩
 ·rw[hv]at h0;refine⟨none,0,0,by simpa using h0,by unfold maxLen;omega,fun h=>absurd h (by omega)⟩
 ·rw[hv]at h0;refine⟨some a,len,cap,by simpa using h0,by omega,fun hp=> ?_⟩;have a5:len≤m:=by rw[a3];split<;>omega
  obtain⟨f0,f1,f2,f3,f4,f5,f6,hu,⟨t0,o0⟩,⟨t1,o1⟩,⟨t2,o2⟩,⟨t3,o3⟩,⟨t4,o4⟩,⟨t5,o5⟩,⟨t6,o6⟩⟩:=wL
  have each: ∀k,k<len→ ∃cs,(∀i,i<7→W.cell? (a.add (k*7+i))=cs[i]?)∧ ∃kd x y z s t u,cs=[Value.int .i64 kd,.int .i64 x,.int .i64 y,.int .i64 z,.string s,.string t,.string u]∧s.size≤maxLen:=by
   intro k hk;obtain⟨cs',h1,h2⟩:=hx k (by omega);rw[yU]at h1;obtain⟨_,a2,a0⟩:=World.cells?_some h1;obtain⟨xs,k',_,a6,_,a4,hf⟩:=DataW.trod_struct hu h2;refine⟨cs',fun i hi=>by rw[←a0 i hi,Deep.add_add],?_⟩
   match cs',a2 with
   | [v0,v1,v2,v3,v4,v5,v6],_=>
   match xs,a4 with
   | [y0,y1,y2,y3,y4,y5,y6],_=>
   have g0:=hf 0 f0 rfl;have g1:=hf 1 f1 rfl;have g2:=hf 2 f2 rfl;have g3:=hf 3 f3 rfl;have g4:=hf 4 f4 rfl;have g5:=hf 5 f5 rfl;have g6:=hf 6 f6 rfl;rw[t0,o0,pd]at g0;rw[t1,o1,pd]at g1;rw[t2,o2,pd]at g2;rw[t3,o3,pd]at g3;rw[t4,o4,sI]at g4;rw[t5,o5,sI]at g5;rw[t6,o6,sI]at g6;obtain⟨i0,e0,_⟩:=DataW.trod_int Tryz.underlying3 g0;obtain⟨i1,e1,_⟩:=DataW.trod_int Tryz.underlying3 g1;obtain⟨i2,e2,_⟩:=DataW.trod_int Tryz.underlying3 g2;obtain⟨i3,e3,_⟩:=DataW.trod_int Tryz.underlying3 g3;obtain⟨i4,e4,_,l4⟩:=DataW.trod_string Tryz.underlying9 g4;obtain⟨i5,e5,_⟩:=DataW.trod_string Tryz.underlying9 g5;obtain⟨i6,e6,_⟩:=DataW.trod_string Tryz.underlying9 g6
   simp at e0 e1 e2 e3 e4 e5 e6;subst e0 e1 e2 e3 e4 e5 e6;exact⟨i0,i1,i2,i3,i4,i5,i6,rfl,l4⟩
  obtain⟨b,off,spot⟩:=a;obtain⟨cs,hc,kd,x,y,z,s,t,u,rfl,_⟩:=each 0 hp;have c0:=hc 0 (by omega);have c1:W.cell? ⟨b,off,spot⟩=some (.int .i64 kd):=c0;have a1:spot=none:=World.cell?_spot c1;subst a1;refine⟨b,off,rfl,yV c1,fun k hk=> ?_⟩;obtain⟨cs,hc,kd,x,y,z,s,t,u,rfl,hs⟩:=each k hk;simp only[WideShapes.add_plain]at hc;exact⟨kd,s,⟨x,y,z,t,u,hc 0 (by omega),hc 1 (by omega),hc 2 (by omega),hc 3 (by omega),hc 4 (by omega),hc 5 (by omega),hc 6 (by omega)⟩,hs⟩
end
theorem Bl {a b:Bool} (h1:a=true) (h2:b=true):(a&&b)=true:=by rw[h1,h2];rfl
def pe:DataW Unit→Array Value
 | .agg ps=>(ps.map fun| .lit (.int k n)=>Value.int k n|_=>Value.bool false).toArray
 |_=>#[]
def es (d:DataW Unit):Obj→Obj
 | .cells _ t frozen=> .cells (pe d) t frozen
 |o=>o
end
end Go.Proofs.YtpfkkmacakjmbaaGreatDoor
