import Derived.Test.YtpfkkmacakjmbaaGreatDoorP42
set_option maxRecDepth 100000
set_option maxHeartbeats 6400000
set_option linter.unusedSimpArgs false
set_option linter.unusedVariables false
namespace Go.Proofs.YtpfkkmacakjmbaaGreatDoor
section
open Go Go.RowKit Sp
attribute [local go_sem ↓] Go.wp_at_zero Go.wp_at_succ
theorem vy (inp:ByteArray) (cells fuel:Int) (w:World) (hg:40<inp.size∨cells<0∨100<cells∨fuel<0∨4000<fuel):
  Calls Tryz.prog 71 #[.string inp,.int .i64 cells,.int .i64 fuel] w fun en w'=>en= .returned (.bool false)∧w'=w:=by
 have a0: ¬(inp.size:Int)≤40∨((inp.size:Int)≤40∧ ¬0≤cells)∨((inp.size:Int)≤40∧0≤cells∧ ¬cells≤100)∨((inp.size:Int)≤40∧0≤cells∧cells≤100∧ ¬0≤fuel)∨((inp.size:Int)≤40∧0≤cells∧cells≤100∧0≤fuel∧ ¬fuel≤4000):=by omega
 clear hg;rcases a0 with g| ⟨g,g2⟩ | ⟨g,g2,g3⟩ | ⟨g,g2,g3,g4⟩ | ⟨g,g2,g3,g4,g5⟩
 all_goals
  go_in
  go_wp2_with fail;go_ret;exact⟨rfl,rfl⟩
theorem vz (inp:ByteArray) (cells fuel:Int) (w:World) (hg: ¬(40<inp.size∨cells<0∨100<cells∨fuel<0∨4000<fuel)):
  Calls Tryz.prog 71 #[.string inp,.int .i64 cells,.int .i64 fuel] w fun en w'=>en= .returned (.bool true)∧w'=w:=by
 have g1:(inp.size:Int)≤40:=by omega
 have g2:0≤cells:=by omega
 have g3:cells≤100:=by omega
 have g4:0≤fuel:=by omega
 have g5:fuel≤4000:=by omega
 clear hg
 go_in
 go_wp2_with fail;go_ret;exact⟨rfl,rfl⟩
theorem xE (s inp:ByteArray) (cells fuel:Int) (w:World) (hmax:s.size≤maxLen) (htab:gv w):
  Calls Tryz.prog 48 #[.string s,.string inp,.int .i64 cells,.int .i64 fuel] w fun en w'=>en= .returned (.tuple #[.string ⟨(jC s inp cells fuel).1.toArray⟩,.int .i64 (jC s inp cells fuel).2.1,.int .i64 (jC s inp cells fuel).2.2])∧But (fun _=>False) w w':=by
 obtain⟨RR,a0⟩: ∃RR,jC s inp cells fuel=RR:=⟨_,rfl⟩;rw[a0]
 by_cases hg:40<inp.size∨cells<0∨100<cells∨fuel<0∨4000<fuel
 ·have a5:RR=([],0,1):=by rw[←a0];unfold jC;rw[if_pos hg]
  subst a5;have HG:=hid (vy inp cells fuel w hg);clear a0 hg
  go_in
  go_wp2_with fail;refine HG.out.mono ?_;rintro en w1 ⟨rfl,rfl⟩;go_wp2_with fail;exact bodyPost_ret (v:= .tuple #[.string ⟨#[]⟩,.int .i64 0,.int .i64 1]) (by simp[results,Tryz.results48,go_sem]) rfl ⟨rfl,But.refl _ _⟩
 ·have HG:=hid (vz inp cells fuel w hg);unfold jC at a0;rw[if_neg hg]at a0;obtain⟨fu,rfl⟩: ∃fu:Nat,fuel=fu:=⟨fuel.toNat,by omega⟩;obtain⟨ce,rfl⟩: ∃ce:Nat,cells=ce:=⟨cells.toNat,by omega⟩;have b2:fu≤4000:=by omega
  have b1:ce≤100:=by omega
  clear hg;have a7:=hid (sJ s w hmax);have a1:=hid a0;clear a0
  go_in
  go_wp2_with fail;refine HG.out.mono ?_;rintro en w0 ⟨rfl,rfl⟩;go_wp2_with fail;refine a7.out.mono ?_;rintro en w1 ⟨rfl,a2,hp⟩;have a0:=a1.out;clear a1 a7 HG
  cases hl:dQ s with
  |error ep=>
   obtain⟨e,p⟩:=ep;rw[hl]at a0;have:=oV hl;simp only at a0;subst a0;have b5:=tf e 0 (by omega);simp only[wm];clear hl hp;go_wp2_with fail;exact bodyPost_ret (v:= .tuple #[.string ⟨#[]⟩,.int .i64 0,.int .i64 e]) (by simp[results,Tryz.results48,go_sem]) rfl ⟨rfl,a2⟩
  |ok im=>
   rw[hl]at a0 hp;simp only[wm];have hp':bT w1 w0.heap.size im∧WfI im:=hp;simp only at a0;have HL:=hid hl;have a1:=hid a0;clear hp hl a0;go_wp2_with fail;refine(sP w0.heap.size im w1 hp'.1 hp'.2).mono ?_;rintro en w2 ⟨a3,hq⟩;have a0:=a1.out;clear a1
   cases ht:fI im 0 im.bodies with
   |error k=>
    rw[ht]at a0 hq;simp only at a0;subst a0;have b3:en= .returned (.tuple #[.slice none 0 0,.int .i64 k,.bool false]):=hq;subst b3;clear hq ht;go_wp2_with fail;exact bodyPost_ret (v:= .tuple #[.string ⟨#[]⟩,.int .i64 0,.int .i64 4]) (by simp[results,Tryz.results48,go_sem]) rfl ⟨rfl,a2.trans a3⟩
   |ok T=>
    rw[ht]at a0 hq;simp only[Int.toNat_natCast]at a0;obtain⟨v,l,a9,rfl,a6⟩:=hq;have a8:=a2.trans a3;have a4:=hid (yH (inp:=inp) (hp'.1.but a3) (wZ HL.out (ry ht)) (htab.but a8) a6 a9 b1 b2);rw[a0]at a4;obtain⟨av,cv,rfl⟩:=au a6.1;clear ht a9 a6 hp' a0 HL a2 a3;generalize l.length=nl at*;go_wp2_with fail;refine a4.out.mono ?_;rintro en w3 ⟨mb,rfl,b4,b0,c7,c8,c9⟩;clear a4;go_wp2_with fail
    go_quiet (fail)
    go_wp2_with fail;exact bodyPost_ret (v:= .tuple #[.string ⟨RR.1.toArray⟩,.int .i64 RR.2.1,.int .i64 RR.2.2]) (by simp[results,Tryz.results48,go_sem]) rfl ⟨rfl,(a8.trans b0).trans (But.drewN _ _ _)⟩
end
end Go.Proofs.YtpfkkmacakjmbaaGreatDoor
