/- Part 21 of what the last text leans on. -/
import Derived.Test.YtkkmnnhaailkcaaGreatDoorJA20
import Derived.Test.YtkkmnnhaailkcaaGreatDoorJA2
import Derived.Test.YtkkmnnhaailkcaaGreatDoorJA1
import Derived.Test.YtkkmnnhaailkcaaGreatDoorJA5
import Derived.Laws.CopyOwn
import Derived.Laws.Rows
import Derived.Laws.Tables
import Derived.Test.YtkkmnnhaailkcaaGreatDoorJA4
import Derived.Deep.WholeRow
import Derived.Deep.RegionLawGrows
set_option maxRecDepth 100000
set_option maxHeartbeats 16000000
namespace Go.Proofs.YtkkmnnhaailkcaaGreatDoor
open Go.RowKit Go.Proofs.Tryz
set_option linter.unusedVariables false
theorem Pl.zZ {xs:List Int} (h:∀i,i<xs.length→0≤el xs i∧el xs i≤65535):xs.all Pl.aS=true:=by
 rw [List.all_eq_true]
 intro x hx
 obtain ⟨i,hi,rfl⟩:=List.getElem_of_mem hx
 have:=h i hi
 simp [el,List.getElem?_eq_getElem hi] at this
 simp [Pl.aS,Pl.within]
 omega
theorem Pl.CX {r:Pl.Rg} (g:Pl.Good r) (p0:0≤r.p) (p1:r.p≤65535):Pl.sJ r=true:=by
 have a1:=Pl.zZ (xs:=r.xs) (fun i hi=>g.dw i (by have:=g.d4;omega))
 have a2:=Pl.zZ (xs:=r.ys) (fun i hi=>g.aw i (by have:=g.a4;omega))
 have h1:=g.d4;have h2:=g.a4;have h3:=g.o0;have h4:=g.o1;have h5:=g.f0;have h6:=g.f1;have h7:=g.m0;have h8:=g.m1
 simp only [Pl.sJ,Pl.iY,a1,a2,Pl.aS,Pl.within,Bool.true_and,Bool.and_eq_true,decide_eq_true_eq]
 omega
theorem Pl.Et {c:Pl.Cp} (h:Pl.iP c=true) (hl:c.bl.length=5*c.bm):Pl.iP (Pl.aO c)=true∧(Pl.aO c).bl.length=5*(Pl.aO c).bm:=by
 have g:=Pl.GM.of h hl c.st
 have gs:=Pl.GM.step h hl
 have hb:∀(r:Pl.Rg) (st:Bool),Pl.sJ r=true→Pl.iP ⟨r,(Pl.stepM c).bx,(Pl.stepM c).bl,(Pl.stepM c).bm,st,false⟩=true:=by
  intro r st hr
  simp [Pl.iP,hr,Pl.fF,gs.ac,gs.bx,gs.ok,gs.bm]
 unfold Pl.aO
 cases (Pl.stepM c).fine
 ·exact ⟨hb _ _ (Pl.CX g.g g.p0 g.p1),gs.bl⟩
 ·exact ⟨hb _ _ (Pl.CX gs.g gs.p0 gs.p1),gs.bl⟩
namespace Pl
structure MI (c:Cp):Prop where
 d:c.r.xs.length≤4
 a:c.r.ys.length≤4
 b:c.bx.length≤512
 l:c.bl.length=5*c.bm
 m:c.bm≤400
theorem KH:MI yB:=⟨by decide,by decide,by decide,by decide,by decide⟩
theorem KG {c:Cp} (h:iP c=true) (hl:c.bl.length=5*c.bm):MI c:=by
 have g:=GM.of h hl c.st
 exact ⟨by have:=g.g.d4;simp only at this;omega,by have:=g.g.a4;simp only at this;omega,by have:=g.bx;simp only at this;omega,hl,g.bm⟩
theorem Rj (c:Cp) (hl:c.bl.length=5*c.bm):MI (scC c):=by
 unfold scC
 cases h:je c
 ·exact KH
 ·have h1:iP c=true:=by unfold je at h;cases q:iP c<;>simp_all
  obtain ⟨g1,g2⟩:=Et h1 hl
  exact KG g1 g2
end Pl
theorem lQ.sl {w:World} {base:Nat} {c:Pl.Cp} {a b e q:Option Addr} (h:lQ w base c a b e q):CJ w base w.heap.size c a b e q:=
 ⟨h.d,h.a',h.b',h.l,h.n1,h.n2,h.n3,h.n4,h.n5,h.n6⟩
structure Pl.WfR (d:Pl.Rg):Prop where
 o:(Lit.int .i64 d.o).wf=true
 p:(Lit.int .i64 d.p).wf=true
 f:(Lit.int .i64 d.f).wf=true
 m:(Lit.int .i64 d.m).wf=true
theorem wfB {v:Int} (h:(Lit.int .i64 v).wf=true) : -9223372036854775808≤v∧v≤9223372036854775807:=bounds_i64 h
theorem XN (v:Int):Pl.okv 2 v=Pl.aS v:=by
 unfold Pl.okv Pl.aS Pl.within Pl.top
 rw [Bool.eq_iff_iff];simp;omega
theorem isWord (v:Int) (w:World) (lo : -9223372036854775808≤v) (hi:v≤9223372036854775807) :
  Calls prog 85 #[iv v] w fun e w'=>e=.returned (.bool (Pl.aS v))∧w'=w:=by
 go_enter func85,ntmps85
 go_wp2_with (go_at_call 128;refine (dE _ _ _ lo hi).mono ?_;rintro e w' ⟨rfl,hw⟩;have hw2:=hw.symm;clear hw;subst hw2;rw [XN])
 go_ret
 exact ⟨rfl,rfl⟩
theorem VL (k:Int) (w:World):Calls prog 214 #[iv k] w fun e w'=>e=.returned (.bool (Pl.within k 0 3))∧w'=w:=by
 by_cases h0:0≤k
 ·by_cases h1:k≤3
  ·go_enter func214,ntmps214
   go_wp2
   go_ret
   exact ⟨rB (by simp [Pl.within,h0,h1]),rfl⟩
  ·go_enter func214,ntmps214
   go_wp2
   go_ret
   exact ⟨rB (by simp [Pl.within,h0];omega),rfl⟩
 ·go_enter func214,ntmps214
  go_wp2
  go_ret
  exact ⟨rB (by simp [Pl.within];omega),rfl⟩
theorem gY (v:Int) (w:World):Calls prog 117 #[iv v] w fun e w'=>e=.returned (iv (v%65536))∧w'=w:=by
 have hW:=IntKind.wrap_u16 v
 go_enter func117,ntmps117
 go_wp2
 go_ret
 exact ⟨rfl,rfl⟩
theorem rG (k:Int) (w:World):Calls prog 86 #[iv k] w fun e w'=>e=.returned (.bool (Pl.within k 0 31))∧w'=w:=by
 by_cases h0:0≤k
 ·by_cases h1:k≤31
  ·go_enter func86,ntmps86
   go_wp2
   go_ret
   exact ⟨rB (by simp [Pl.within,h0,h1]),rfl⟩
  ·go_enter func86,ntmps86
   go_wp2
   go_ret
   exact ⟨rB (by simp [Pl.within,h0];omega),rfl⟩
 ·go_enter func86,ntmps86
  go_wp2
  go_ret
  exact ⟨rB (by simp [Pl.within];omega),rfl⟩
theorem eY (w:World) (a:Option Addr) (ca:Nat) (xs:List Int) (ha:Came w a xs) (lx:xs.length≤2000000) :
  Calls prog 84 #[.slice a xs.length ca] w fun e w'=>e=.returned (.bool (xs.all Pl.aS))∧w'=w:=by
 have HA:=hide ha
 clear ha
 go_enter func84,ntmps84
 go_wp2
 go_loop [4,7] (fun _ j=>∃k:Nat,k≤xs.length∧j=iv k∧∀i,i<k→Pl.aS (el xs i)=true) (fun _ j=>xs.length-(intOf j).toNat)
 case atStart=>exact ⟨0,Nat.zero_le _,rfl,fun i hi=>absurd hi (Nat.not_lt_zero i)⟩
 case round=>
  obtain ⟨k,hk,rfl,heq⟩:=hrel
  have HE:=hide heq
  clear heq
  by_cases hlt:k<xs.length
  ·obtain ⟨g1,o1,rfl,hc1⟩:=HA.o.1 k hlt
   obtain ⟨lo,hi⟩:=HA.o.2 k hlt
   rw [show xs[k]?.getD 0=el xs k from rfl] at hc1 lo hi
   cases hb:Pl.aS (el xs k)
   ·go_wp2_with (go_at_call 85;refine (isWord _ _ lo hi).mono ?_;rintro e w' ⟨rfl,rfl⟩;rw [hb])
    go_ret
    refine ⟨rB ?_,rfl⟩
    have hm:xs[k]'hlt∈xs:=List.getElem_mem hlt
    have he:el xs k=xs[k]'hlt:=by simp [el,List.getElem?_eq_getElem hlt]
    rw [he] at hb
    cases hq:xs.all Pl.aS
    ·rfl
    ·have:=List.all_eq_true.1 hq _ hm
     rw [hb] at this;cases this
   ·go_wp2_with (go_at_call 85;refine (isWord _ _ lo hi).mono ?_;rintro e w' ⟨rfl,rfl⟩;rw [hb])
    go_round
    case rel=>exact ⟨k+1,by omega,by go_num,kS HE.o hb⟩
    case measure=>simp [intOf];omega
  ·go_wp2
   go_ret
   refine ⟨rB ?_,rfl⟩
   symm
   rw [List.all_eq_true]
   intro x hx
   obtain ⟨i,hi,rfl⟩:=List.getElem_of_mem hx
   have:=HE.o i (by omega)
   simpa [el,List.getElem?_eq_getElem hi] using this
theorem yR (z k:Int) (w:World) (hz:z=1∨z=2):Calls prog 227 #[iv z,iv k] w fun e w'=>e=.returned (iv (Pl.byN z k))∧w'=w:=by
 by_cases h:k=3
 ·subst h
  go_enter func227,ntmps227
  go_wp2
  go_ret
  exact ⟨rI (by simp [Pl.byN]),rfl⟩
 ·go_enter func227,ntmps227
  go_wp2
  go_ret
  exact ⟨rI (by rcases hz with rfl|rfl<;>simp [Pl.byN,h]),rfl⟩
theorem JS (b:Bool) (f:Int) (w:World):Calls prog 133 #[.bool b,iv f] w fun e w'=>e=.returned (iv (Pl.fl1 b f))∧w'=w:=by
 cases b
 all_goals
  go_enter func133,ntmps133
  go_wp2
  go_ret
  exact ⟨rfl,rfl⟩
theorem nO (w:World) (d:Pl.Rg) (a b:Option Addr) (ca cb:Nat) (ha:Came w a d.xs) (hb:Came w b d.ys) (lx:d.xs.length≤2000000) (ly:d.ys.length≤2000000) (wfd:Pl.WfR d) :
  Calls prog 53 #[.agg #[.slice a d.xs.length ca,.slice b d.ys.length cb,iv d.o,iv d.p,iv d.f,iv d.m,.bool d.s,.bool d.t]] w fun e w'=>e=.returned (.bool (Pl.sJ d))∧Kept 0 0 w w':=by
 have HA:=hide ha
 have HB:=hide hb
 have HK:=hide (kept_alloc w (.cells #[.slice a d.xs.length ca,.slice b d.ys.length cb,iv d.o,iv d.p,iv d.f,iv d.m,.bool d.s,.bool d.t] 31))
 clear ha hb
 have G:Hid (Pl.sJ d=((d.xs.all Pl.aS&&decide ((d.xs.length:Int)=4))&&((d.ys.all Pl.aS&&decide ((d.ys.length:Int)=4))&&(Pl.aS d.o&&(Pl.aS d.p&&(Pl.within d.f 0 31&&(decide (0≤d.m)&&decide (d.m≤7)))))))):=hide rfl
 cases l1:((d.xs.length:Int)==4)
 ·have q1:decide ((d.xs.length:Int)=4)=false:=by simpa using l1
  go_enter func53,ntmps53
  go_wp2
  go_ret
  exact ⟨rB (by rw [G.o,q1];simp),HK.o⟩
 ·have q1:decide ((d.xs.length:Int)=4)=true:=by simpa using l1
  cases h2:d.xs.all Pl.aS
  ·have qh2:True:=trivial
   go_enter func53,ntmps53
   go_wp2_with (first|(go_at_call 84;refine (eY _ a ca d.xs (HA.o.ai HK.o) lx).mono ?_;rintro e w' ⟨rfl,hw⟩;have hw2:=hw.symm;clear hw;subst hw2;rw [h2];have Z1:True:=trivial))
   go_ret
   exact ⟨rB (by rw [G.o,q1,h2];simp),HK.o⟩
  ·have qh2:True:=trivial
   cases l3:((d.ys.length:Int)==4)
   ·have q3:decide ((d.ys.length:Int)=4)=false:=by simpa using l3
    go_enter func53,ntmps53
    go_wp2_with (first|(go_at_call 84;refine (eY _ a ca d.xs (HA.o.ai HK.o) lx).mono ?_;rintro e w' ⟨rfl,hw⟩;have hw2:=hw.symm;clear hw;subst hw2;rw [h2];have Z1:True:=trivial))
    go_ret
    exact ⟨rB (by rw [G.o,q1,h2,q3];simp),HK.o⟩
   ·have q3:decide ((d.ys.length:Int)=4)=true:=by simpa using l3
    cases h4:d.ys.all Pl.aS
    ·have qh4:True:=trivial
     go_enter func53,ntmps53
     go_wp2_with (first|(go_at_call 84;have z:=Z1;refine (eY _ b cb d.ys (HB.o.ai HK.o) ly).mono ?_;rintro e w' ⟨rfl,hw⟩;have hw2:=hw.symm;clear hw;subst hw2;rw [h4])|(go_at_call 84;refine (eY _ a ca d.xs (HA.o.ai HK.o) lx).mono ?_;rintro e w' ⟨rfl,hw⟩;have hw2:=hw.symm;clear hw;subst hw2;rw [h2];have Z1:True:=trivial))
     go_ret
     exact ⟨rB (by rw [G.o,q1,h2,q3,h4];simp),HK.o⟩
    ·have qh4:True:=trivial
     cases h5:Pl.aS d.o
     ·have qh5:True:=trivial
      go_enter func53,ntmps53
      go_wp2_with (first|(go_at_call 84;have z:=Z1;refine (eY _ b cb d.ys (HB.o.ai HK.o) ly).mono ?_;rintro e w' ⟨rfl,hw⟩;have hw2:=hw.symm;clear hw;subst hw2;rw [h4])|(go_at_call 84;refine (eY _ a ca d.xs (HA.o.ai HK.o) lx).mono ?_;rintro e w' ⟨rfl,hw⟩;have hw2:=hw.symm;clear hw;subst hw2;rw [h2];have Z1:True:=trivial)|(go_at_call 85;refine (isWord d.o _ (wfB wfd.o).1 (wfB wfd.o).2).mono ?_;rintro e w' ⟨rfl,hw⟩;have hw2:=hw.symm;clear hw;subst hw2;rw [h5];have Z3:True:=trivial))
      go_ret
      exact ⟨rB (by rw [G.o,q1,h2,q3,h4,h5];simp),HK.o⟩
     ·have qh5:True:=trivial
      cases h6:Pl.aS d.p
      ·have qh6:True:=trivial
       go_enter func53,ntmps53
       go_wp2_with (first|(go_at_call 84;have z:=Z1;refine (eY _ b cb d.ys (HB.o.ai HK.o) ly).mono ?_;rintro e w' ⟨rfl,hw⟩;have hw2:=hw.symm;clear hw;subst hw2;rw [h4])|(go_at_call 84;refine (eY _ a ca d.xs (HA.o.ai HK.o) lx).mono ?_;rintro e w' ⟨rfl,hw⟩;have hw2:=hw.symm;clear hw;subst hw2;rw [h2];have Z1:True:=trivial)|(go_at_call 85;have z:=Z3;refine (isWord d.p _ (wfB wfd.p).1 (wfB wfd.p).2).mono ?_;rintro e w' ⟨rfl,hw⟩;have hw2:=hw.symm;clear hw;subst hw2;rw [h6])|(go_at_call 85;refine (isWord d.o _ (wfB wfd.o).1 (wfB wfd.o).2).mono ?_;rintro e w' ⟨rfl,hw⟩;have hw2:=hw.symm;clear hw;subst hw2;rw [h5];have Z3:True:=trivial))
       go_ret
       exact ⟨rB (by rw [G.o,q1,h2,q3,h4,h5,h6];simp),HK.o⟩
      ·have qh6:True:=trivial
       cases h7:Pl.within d.f 0 31
       ·have qh7:True:=trivial
        go_enter func53,ntmps53
        go_wp2_with (first|(go_at_call 84;have z:=Z1;refine (eY _ b cb d.ys (HB.o.ai HK.o) ly).mono ?_;rintro e w' ⟨rfl,hw⟩;have hw2:=hw.symm;clear hw;subst hw2;rw [h4])|(go_at_call 84;refine (eY _ a ca d.xs (HA.o.ai HK.o) lx).mono ?_;rintro e w' ⟨rfl,hw⟩;have hw2:=hw.symm;clear hw;subst hw2;rw [h2];have Z1:True:=trivial)|(go_at_call 85;have z:=Z3;refine (isWord d.p _ (wfB wfd.p).1 (wfB wfd.p).2).mono ?_;rintro e w' ⟨rfl,hw⟩;have hw2:=hw.symm;clear hw;subst hw2;rw [h6])|(go_at_call 85;refine (isWord d.o _ (wfB wfd.o).1 (wfB wfd.o).2).mono ?_;rintro e w' ⟨rfl,hw⟩;have hw2:=hw.symm;clear hw;subst hw2;rw [h5];have Z3:True:=trivial)|(go_at_call 86;refine (rG d.f _).mono ?_;rintro e w' ⟨rfl,hw⟩;have hw2:=hw.symm;clear hw;subst hw2;rw [h7]))
        go_ret
        exact ⟨rB (by rw [G.o,q1,h2,q3,h4,h5,h6,h7];simp),HK.o⟩
       ·have qh7:True:=trivial
        cases h8:decide (0≤d.m)
        ·have qh8:True:=trivial
         go_enter func53,ntmps53
         go_wp2_with (first|(go_at_call 84;have z:=Z1;refine (eY _ b cb d.ys (HB.o.ai HK.o) ly).mono ?_;rintro e w' ⟨rfl,hw⟩;have hw2:=hw.symm;clear hw;subst hw2;rw [h4])|(go_at_call 84;refine (eY _ a ca d.xs (HA.o.ai HK.o) lx).mono ?_;rintro e w' ⟨rfl,hw⟩;have hw2:=hw.symm;clear hw;subst hw2;rw [h2];have Z1:True:=trivial)|(go_at_call 85;have z:=Z3;refine (isWord d.p _ (wfB wfd.p).1 (wfB wfd.p).2).mono ?_;rintro e w' ⟨rfl,hw⟩;have hw2:=hw.symm;clear hw;subst hw2;rw [h6])|(go_at_call 85;refine (isWord d.o _ (wfB wfd.o).1 (wfB wfd.o).2).mono ?_;rintro e w' ⟨rfl,hw⟩;have hw2:=hw.symm;clear hw;subst hw2;rw [h5];have Z3:True:=trivial)|(go_at_call 86;refine (rG d.f _).mono ?_;rintro e w' ⟨rfl,hw⟩;have hw2:=hw.symm;clear hw;subst hw2;rw [h7]))
         go_ret
         exact ⟨rB (by rw [G.o,q1,h2,q3,h4,h5,h6,h7,h8];simp),HK.o⟩
        ·have qh8:True:=trivial
         cases h9:decide (d.m≤7)
         ·have qh9:True:=trivial
          go_enter func53,ntmps53
          go_wp2_with (first|(go_at_call 84;have z:=Z1;refine (eY _ b cb d.ys (HB.o.ai HK.o) ly).mono ?_;rintro e w' ⟨rfl,hw⟩;have hw2:=hw.symm;clear hw;subst hw2;rw [h4])|(go_at_call 84;refine (eY _ a ca d.xs (HA.o.ai HK.o) lx).mono ?_;rintro e w' ⟨rfl,hw⟩;have hw2:=hw.symm;clear hw;subst hw2;rw [h2];have Z1:True:=trivial)|(go_at_call 85;have z:=Z3;refine (isWord d.p _ (wfB wfd.p).1 (wfB wfd.p).2).mono ?_;rintro e w' ⟨rfl,hw⟩;have hw2:=hw.symm;clear hw;subst hw2;rw [h6])|(go_at_call 85;refine (isWord d.o _ (wfB wfd.o).1 (wfB wfd.o).2).mono ?_;rintro e w' ⟨rfl,hw⟩;have hw2:=hw.symm;clear hw;subst hw2;rw [h5];have Z3:True:=trivial)|(go_at_call 86;refine (rG d.f _).mono ?_;rintro e w' ⟨rfl,hw⟩;have hw2:=hw.symm;clear hw;subst hw2;rw [h7]))
          go_ret
          exact ⟨rB (by rw [G.o,q1,h2,q3,h4,h5,h6,h7,h8,h9];simp),HK.o⟩
         ·have qh9:True:=trivial
          go_enter func53,ntmps53
          go_wp2_with (first|(go_at_call 84;have z:=Z1;refine (eY _ b cb d.ys (HB.o.ai HK.o) ly).mono ?_;rintro e w' ⟨rfl,hw⟩;have hw2:=hw.symm;clear hw;subst hw2;rw [h4])|(go_at_call 84;refine (eY _ a ca d.xs (HA.o.ai HK.o) lx).mono ?_;rintro e w' ⟨rfl,hw⟩;have hw2:=hw.symm;clear hw;subst hw2;rw [h2];have Z1:True:=trivial)|(go_at_call 85;have z:=Z3;refine (isWord d.p _ (wfB wfd.p).1 (wfB wfd.p).2).mono ?_;rintro e w' ⟨rfl,hw⟩;have hw2:=hw.symm;clear hw;subst hw2;rw [h6])|(go_at_call 85;refine (isWord d.o _ (wfB wfd.o).1 (wfB wfd.o).2).mono ?_;rintro e w' ⟨rfl,hw⟩;have hw2:=hw.symm;clear hw;subst hw2;rw [h5];have Z3:True:=trivial)|(go_at_call 86;refine (rG d.f _).mono ?_;rintro e w' ⟨rfl,hw⟩;have hw2:=hw.symm;clear hw;subst hw2;rw [h7]))
          go_ret
          exact ⟨rB (by rw [G.o,q1,h2,q3,h4,h5,h6,h7,h8,h9];simp),HK.o⟩
def bkR (r:Pl.Rg):Array Value:=#[iv (el r.xs 0),iv (el r.xs 1),iv (el r.xs 2),iv (el r.xs 3),iv (el r.ys 0),iv (el r.ys 1),iv (el r.ys 2),iv (el r.ys 3),iv r.o,iv r.p,iv r.f,iv r.m,.bool r.s,.bool r.t]
theorem Qa (r:Pl.Rg):(bkR r).all (·.oneCell')=true:=by simp [bkR,Value.oneCell']
theorem vZ (r:Pl.Rg):(prog.info? 85).map (·.size)=some (bkR r).size:=by
 have:(prog.info? 85).map (·.size)=some 14:=by kernel_rfl
 exact this
theorem list4 {xs:List Int} (h:xs.length=4):xs=[el xs 0,el xs 1,el xs 2,el xs 3]:=by
 match xs,h with
 | [a,b,c,d],_=>rfl
theorem mk4 (w:World):(Instr.makeSlice 22 (iv 4) (iv 4)).run prog w=.ok (.slice (some ⟨w.heap.size,0,none⟩) 4 4) (w.alloc (.cells #[iv 0,iv 0,iv 0,iv 0] 3)):=by kernel_rfl
theorem Oh (x0 x1 x2 x3:Int) (w:World) :
  Calls prog 97 #[.agg #[iv x0,iv x1,iv x2,iv x3]] w fun e w'=>e=.returned (.slice (some ⟨w.heap.size+1,0,none⟩) 4 4)∧Blk w' (w.heap.size+1) (cellsOf [x0,x1,x2,x3]) 3∧Kept 0 0 w w':=by
 have B0:Blk ((w.alloc (.cells #[iv x0,iv x1,iv x2,iv x3] 83)).alloc (.cells #[iv 0,iv 0,iv 0,iv 0] 3)) w.heap.size (cellsOf [x0,x1,x2,x3]) 83:=(Blk.new w #[iv x0,iv x1,iv x2,iv x3] 83).alloc _
 have B1:=Blk.new (w.alloc (.cells #[iv x0,iv x1,iv x2,iv x3] 83)) #[iv 0,iv 0,iv 0,iv 0] 3
 simp only [World.size_alloc] at B1
 obtain ⟨W1,hcopy,C1,k1⟩:=yD _ (w.heap.size+1) 0 4 4 4 (some ⟨w.heap.size,0,none⟩) [x0,x1,x2,x3] [iv 0,iv 0,iv 0,iv 0] 3 B1 (jM B0).row (by simp) (by simp)
 have hc:(Builtin.copy_ #[22,22] 3 #[.slice (some ⟨w.heap.size+1,0,none⟩) 4 4,.slice (some ⟨w.heap.size,0,none⟩) 4 4]).run prog ((w.alloc (.cells #[iv x0,iv x1,iv x2,iv x3] 83)).alloc (.cells #[iv 0,iv 0,iv 0,iv 0] 3))=.ok (iv 4) W1:=hcopy
 have C:=hide (show Blk W1 (w.heap.size+1) (cellsOf [x0,x1,x2,x3]) 3 from C1)
 have K:=hide (dD (ah (kept_alloc w _) _) k1 (by omega))
 clear B0 B1 hcopy C1 k1
 have mk:=mk4
 go_enter func97,ntmps97
 go_wp2
 go_ret
 exact ⟨rfl,C.o,K.o⟩
theorem Uh (w:World) (d:Pl.Rg) (a b:Option Addr) (ca cb:Nat) (ha:aI w a d.xs) (hb:aI w b d.ys) (lx:d.xs.length=4) (ly:d.ys.length=4) :
  Calls prog 55 #[.agg #[.slice a d.xs.length ca,.slice b d.ys.length cb,iv d.o,iv d.p,iv d.f,iv d.m,.bool d.s,.bool d.t]] w fun e w'=>e=.returned (.agg (bkR d))∧Kept 0 0 w w':=by
 rw [lx,ly]
 obtain ⟨W0,h0⟩:∃W:World,W=((w.alloc (.cells #[.slice a 4 ca,.slice b 4 cb,iv d.o,iv d.p,iv d.f,iv d.m,.bool d.s,.bool d.t] 31)).alloc (.cells #[iv 0,iv 0,iv 0,iv 0,iv 0,iv 0,iv 0,iv 0,iv 0,iv 0,iv 0,iv 0,.bool false,.bool false] 85)).alloc (.cells #[iv 0,iv 0,iv 0,iv 0,iv 0,iv 0,iv 0,iv 0,iv d.o,iv d.p,iv d.f,iv d.m,.bool d.s,.bool d.t] 85):=⟨_,rfl⟩
 have R0:Blk W0 w.heap.size #[.slice a 4 ca,.slice b 4 cb,iv d.o,iv d.p,iv d.f,iv d.m,.bool d.s,.bool d.t] 31:=by rw [h0];exact ((Blk.new w _ _).alloc _).alloc _
 have Z0:Blk W0 (w.heap.size+1) #[iv 0,iv 0,iv 0,iv 0,iv 0,iv 0,iv 0,iv 0,iv 0,iv 0,iv 0,iv 0,.bool false,.bool false] 85:=by
  rw [h0]
  have:=Blk.new (w.alloc (.cells #[.slice a 4 ca,.slice b 4 cb,iv d.o,iv d.p,iv d.f,iv d.m,.bool d.s,.bool d.t] 31)) #[iv 0,iv 0,iv 0,iv 0,iv 0,iv 0,iv 0,iv 0,iv 0,iv 0,iv 0,iv 0,.bool false,.bool false] 85
  simp only [World.size_alloc] at this
  exact this.alloc _
 have B0:Blk W0.drew (w.heap.size+1+1) #[iv 0,iv 0,iv 0,iv 0,iv 0,iv 0,iv 0,iv 0,iv d.o,iv d.p,iv d.f,iv d.m,.bool d.s,.bool d.t] 85:=by
  rw [h0]
  have:=Blk.new ((w.alloc (.cells #[.slice a 4 ca,.slice b 4 cb,iv d.o,iv d.p,iv d.f,iv d.m,.bool d.s,.bool d.t] 31)).alloc (.cells #[iv 0,iv 0,iv 0,iv 0,iv 0,iv 0,iv 0,iv 0,iv 0,iv 0,iv 0,iv 0,.bool false,.bool false] 85)) #[iv 0,iv 0,iv 0,iv 0,iv 0,iv 0,iv 0,iv 0,iv d.o,iv d.p,iv d.f,iv d.m,.bool d.s,.bool d.t] 85
  simp only [World.size_alloc] at this
  exact this
 have K0:Kept 0 0 w W0.drew:=by rw [h0];exact ae (ah (ah (kept_alloc w _) _) _)
 have r00:=R0.cell (i:=0) rfl
 have r01:=R0.cell (i:=1) rfl
 obtain ⟨W1,hc1,B1,k1⟩:=yD W0.drew (w.heap.size+1+1) 0 4 4 ca a d.xs _ _ B0 (ha.ai K0) (by omega) (by rw [lx];simp)
 have K1:Kept 0 0 w W1.drew:=ae (dD K0 k1 (by omega))
 have R1:Blk W1 w.heap.size #[.slice a 4 ca,.slice b 4 cb,iv d.o,iv d.p,iv d.f,iv d.m,.bool d.s,.bool d.t] 31:=Blk.kept (show Blk W0.drew _ _ _ from R0) k1 (by omega)
 have r11:=R1.cell (i:=1) rfl
 obtain ⟨W2,hc2,B2,k2⟩:=yD W1.drew (w.heap.size+1+1) 4 4 4 cb b d.ys _ _ (show Blk W1.drew _ _ _ from B1) (hb.ai K1) (by omega) (by rw [ly,length_splice _ _ _ (by simp [lx])];simp)
 have Z1:=Blk.kept (show Blk W0.drew _ _ _ from Z0) k1 (by omega)
 have Z2:=hide (Blk.kept (show Blk W1.drew _ _ _ from Z1) k2 (by omega))
 have K2:=hide (dD K1 k2 (by omega))
 rw [lx] at hc1
 rw [ly] at hc2
 have D2:Hid (Blk W2 (w.heap.size+1+1) (bkR d) 85):=hide (by
  rw [list4 lx,list4 ly] at B2
  exact B2)
 clear B0 B1 B2 k1 k2 K0 K1 R0 Z0 R1 Z1
 go_enter func55,ntmps55
 go_wp2_with fail
 rw [←h0]
 clear h0
 go_region
 go_wp2_with fail
 go_region
 go_wp2_with (first|(refine wpList_load_row rfl 85 (.tmp 3) rfl (w.heap.size+1+1) rfl 85 (bkR d) (0,0) _ D2.o underlying85 rfl (vZ d) ?_)|(refine wpList_store_row rfl 85 (.tmp 2) (.tmp 27) rfl (w.heap.size+1) (bkR d) rfl rfl 85 _ Z2.o (vZ d) rfl (Qa d) ?_))
 refine bodyPost_ret (v:=.agg (bkR d)) ?_ rfl ⟨rfl,lJ K2.o _ _ (by omega)⟩
 exact results_cell_row rfl _ _ _ _ _ (0,0) _ rfl Z2.o.setRow underlying85 rfl (vZ d)
theorem bkX {r:Pl.Rg} (h:r.xs.length=4) {k:Nat} (hk:k<4) (z:Int):bkR {r with xs:=r.xs.set k z}=(bkR r).setIfInBounds k (iv z):=by
 obtain ⟨xs,ys,o,p,f,m,s,t⟩:=r
 match xs,h with
 | [a,b,c,d],_=>
  have:k=0∨k=1∨k=2∨k=3:=by omega
  rcases this with rfl|rfl|rfl|rfl<;>rfl
theorem bkY {r:Pl.Rg} (h:r.ys.length=4) {k:Nat} (hk:k<4) (z:Int):bkR {r with ys:=r.ys.set k z}=(bkR r).setIfInBounds (4+k) (iv z):=by
 obtain ⟨xs,ys,o,p,f,m,s,t⟩:=r
 match ys,h with
 | [a,b,c,d],_=>
  have:k=0∨k=1∨k=2∨k=3:=by omega
  rcases this with rfl|rfl|rfl|rfl<;>rfl
theorem Qd (x:Nat):x &&& 18446744073709551360=x/256%72057594037927936*256:=by
 apply Nat.eq_of_testBit_eq
 intro i
 rw [Nat.testBit_and,show (18446744073709551360:Nat)=(2^56-1)*2^8 from by decide,Nat.testBit_mul_two_pow,Nat.testBit_two_pow_sub_one,show x/256%72057594037927936*256=x/2^8%2^56*2^8 from rfl,Nat.testBit_mul_two_pow,Nat.testBit_mod_two_pow,Nat.testBit_div_two_pow]
 by_cases h:8≤i
 ·have e:i-8+8=i:=by omega
  simp [h,e,Bool.and_comm]
 ·simp [h]
theorem Gt {x:Int} (h0:0≤x) (h1:x≤65535):bits .andNot .i64 x 255=x/256*256:=by
 show IntKind.i64.wrap ((BitVec.ofInt 64 x &&& ~~~ BitVec.ofInt 64 255).toNat:Int)=_
 rw [BitVec.toNat_and,BitVec.toNat_ofInt,show (~~~ BitVec.ofInt 64 255).toNat=18446744073709551360 from by decide,Qd,IntKind.wrap_i64]
 omega
theorem RG (x y:Int):bits .or .i64 x y=bits .or .i64 y x:=by
 show IntKind.i64.wrap ((BitVec.ofInt 64 x ||| BitVec.ofInt 64 y).toNat:Int)=IntKind.i64.wrap ((BitVec.ofInt 64 y ||| BitVec.ofInt 64 x).toNat:Int)
 rw [BitVec.or_comm]
theorem zY {x v:Int} (h0:0≤x) (h1:x≤65535) (v0:0≤v) (v1:v≤255):bits .or .i64 v (bits .andNot .i64 x 255)=x/256*256+v:=by
 rw [Gt h0 h1,RG]
 exact bits_join .i64 62 (by decide) Pl.ig 8 (x/256*256) v (by omega) (by omega) (by omega) (by omega) (by omega) (by omega)
def cor (r:Pl.Rg) (xs:List Int) (u:Value) (st ha:Bool):Array Value:=bkR r++(cellsOf xs++#[u,.bool st,.bool ha])
theorem set_left {A B:Array Value} {i:Nat} (h:i<A.size) (v:Value):(A++B).setIfInBounds i v=A.setIfInBounds i v++B:=by
 apply Array.ext_getElem?
 intro j
 simp only [Array.getElem?_setIfInBounds,Array.getElem?_append,Array.size_append,Array.size_setIfInBounds]
 by_cases e:i=j
 ·subst e;simp [h];omega
 ·simp [e]
theorem set_right {A B:Array Value} (i:Nat) (v:Value):(A++B).setIfInBounds (A.size+i) v=A++B.setIfInBounds i v:=by
 apply Array.ext_getElem?
 intro j
 simp only [Array.getElem?_setIfInBounds,Array.getElem?_append,Array.size_append]
 by_cases e:A.size+i=j
 ·subst e;simp;omega
 ·by_cases h:j<A.size
  ·simp [e,h]
  ·simp [e,h,show ¬i=j-A.size by omega]
theorem Since.mine {w a b:World} {lo hi x y g g':Nat} (h:Since w lo hi g a g') (k:Kept x y a b) (hx:w.heap.size≤x):Since w lo hi g b g':=
 ⟨h.1,⟨k.os.trans h.2.os,k.tape.trans h.2.tape,k.output.trans h.2.output,Nat.le_trans h.2.size k.size,fun i hi' hn=>(k.block i (Nat.lt_of_lt_of_le hi' h.2.size) (by omega)).trans (h.2.block i hi' hn)⟩⟩
section
variable {r:Pl.Rg} {xs:List Int} {u:Value} {st ha:Bool}
theorem zU (hl:xs.length=512):(cor r xs u st ha).size=529:=by
 have:(bkR r).size=14:=rfl
 simp [cor,this,cellsOf_size,hl]
theorem yC {i:Nat} (h:i<14):(cor r xs u st ha)[i]? = (bkR r)[i]? := Array.getElem?_append_left h
theorem La (i:Nat):(cor r xs u st ha)[14+i]? = (cellsOf xs++#[u,.bool st,.bool ha])[i]? := by
 have:=Array.getElem?_append_right (xs:=bkR r) (ys:=cellsOf xs++#[u,.bool st,.bool ha]) (i:=14+i) (Nat.le_add_right 14 i)
 rw [show 14+i-(bkR r).size=i from Nat.add_sub_cancel_left 14 i] at this
 exact this
theorem vU {i:Nat} (hi:i<xs.length):(cor r xs u st ha)[14+i]? = some (iv (el xs i)):=by
 rw [La,Array.getElem?_append_left (by rw [cellsOf_size];exact hi)]
 simp [cellsOf,el,hi]
theorem BV (hl:xs.length=512) (i:Nat):(cor r xs u st ha)[14+(512+i)]? = (#[u,.bool st,.bool ha]:Array Value)[i]? := by
 rw [La,Array.getElem?_append_right (by rw [cellsOf_size,hl];omega),cellsOf_size,hl,Nat.add_sub_cancel_left]
theorem kK (hl:xs.length=512):(cor r xs u st ha)[526]? = some u:=BV hl 0
theorem KJ (hl:xs.length=512):(cor r xs u st ha)[527]? = some (.bool st):=BV hl 1
theorem Lc (hl:xs.length=512):(cor r xs u st ha)[528]? = some (.bool ha):=BV hl 2
theorem Gf {i:Nat} (v:Int):(cellsOf xs).setIfInBounds i (iv v)=cellsOf (xs.set i v):=by
 simp [cellsOf,List.map_set]
theorem KT {i:Nat} {z:Int} (hi:i<xs.length):(cor r xs u st ha).setIfInBounds (14+i) (iv z)=cor r (xs.set i z) u st ha:=by
 show (bkR r++_).setIfInBounds ((bkR r).size+i) _=_
 rw [set_right,set_left (by rw [cellsOf_size];exact hi),Gf]
 rfl
theorem KL (hl:xs.length=512) (u':Value):(cor r xs u st ha).setIfInBounds 526 u'=cor r xs u' st ha:=by
 show (bkR r++_).setIfInBounds ((bkR r).size+512) _=_
 have e:=set_right (A:=cellsOf xs) (B:=#[u,.bool st,.bool ha]) 0 u'
 rw [cellsOf_size,hl] at e
 rw [set_right,show (512:Nat)=512+0 from rfl,e]
 rfl
theorem KN (hl:xs.length=512) (s':Bool):(cor r xs u st ha).setIfInBounds 527 (.bool s')=cor r xs u s' ha:=by
 show (bkR r++_).setIfInBounds ((bkR r).size+513) _=_
 have e:=set_right (A:=cellsOf xs) (B:=#[u,.bool st,.bool ha]) 1 (.bool s')
 rw [cellsOf_size,hl] at e
 rw [set_right,show (513:Nat)=512+1 from rfl,e]
 rfl
theorem KO {r':Pl.Rg} {i:Nat} {v:Value} (hi:i<14) (h:bkR r'=(bkR r).setIfInBounds i v):(cor r xs u st ha).setIfInBounds i v=cor r' xs u st ha:=by
 show (bkR r++_).setIfInBounds i v=_
 rw [set_left hi,←h]
 rfl
end
theorem QM {r:Pl.Rg} {k:Nat} (hk:k<4):(bkR r)[k]? = some (iv (el r.xs k))∧(bkR r)[4+k]? = some (iv (el r.ys k)):=by
 have:k=0∨k=1∨k=2∨k=3:=by omega
 rcases this with rfl|rfl|rfl|rfl<;>exact ⟨rfl,rfl⟩
def CBk (w:World) (b g cu:Nat) (c:Pl.Mc) (h:Bool):Prop:=Blk w b (cor c.r c.bx (.slice (some ⟨g,0,none⟩) c.bm cu) c.st h) 93
structure CLg (w:World) (lo b g cu:Nat) (bl:List Int) (bm:Nat):Prop where
 l:w.ownsRow lo 119 5 (.slice (some ⟨g,0,none⟩) bm cu) bm (bl.map (Value.int .i64))
 lo':lo≤b
 ne:b≠g
def CAt (w:World) (lo b g:Nat) (c:Pl.Mc) (h:Bool):Prop:=∃cu:Nat,CBk w b g cu c h∧CLg w lo b g cu c.bl c.bm
section
variable {w w':World} {lo b g cu:Nat} {c:Pl.Mc} {h:Bool} {bl:List Int} {bm:Nat}
theorem CLg.own (o:CLg w lo b g cu bl bm) (k:Kept b (b+1) w w'):CLg w' lo b g cu bl bm:=⟨dJ o.l k (by have:=o.ne;omega),o.lo',o.ne⟩
theorem CLg.any (o:CLg w lo b g cu bl bm) (k:Kept 0 0 w w'):CLg w' lo b g cu bl bm:=⟨dJ o.l k (by omega),o.lo',o.ne⟩
theorem CLg.lt (o:CLg w lo b g cu bl bm):lo≤g∧g<w.heap.size:=o.l.lt g rfl
theorem CAt.lt (a:CAt w lo b g c h):lo≤b∧b<w.heap.size∧lo≤g∧g<w.heap.size∧b≠g:=by
 obtain ⟨cu,hB,hO⟩:=a
 have:=hO.lt
 exact ⟨hO.lo',Blk.lt hB,this.1,this.2,hO.ne⟩
theorem CAt.any (a:CAt w lo b g c h) (k:Kept 0 0 w w'):CAt w' lo b g c h:=by
 obtain ⟨cu,hB,hO⟩:=a
 exact ⟨cu,Blk.af hB k,hO.any k⟩
theorem CAt.alloc (a:CAt w lo b g c h) (o:Obj):CAt (w.alloc o) lo b g c h:=a.any (kept_alloc w o)
theorem CAt.drew (a:CAt w lo b g c h):CAt w.drew lo b g c h:=a.any (ae (Kept.refl _ _ _))
theorem CAt.other (a:CAt w lo b g c h) (q i:Nat) (v:Value) (h1:q≠b) (h2:q≠g):CAt (w.setCell ⟨q,i,none⟩ v) lo b g c h:=by
 obtain ⟨cu,hB,hO⟩:=a
 have k:=ag (Kept.refl q (q+1) w) q i v (.inl (by omega))
 exact ⟨cu,Blk.kept hB k (by omega),⟨dJ hO.l k (by omega),hO.lo',hO.ne⟩⟩
theorem CAt.kept {x y:Nat} (a:CAt w lo b g c h) (k:Kept x y w w') (h1:¬(x≤b∧b<y)) (h2:¬(x≤g∧g<y)):CAt w' lo b g c h:=by
 obtain ⟨cu,hB,hO⟩:=a
 exact ⟨cu,Blk.kept hB k h1,⟨dJ hO.l k h2,hO.lo',hO.ne⟩⟩
theorem CAt.reg {r':Pl.Rg} (a:CAt w lo b g c h) {i:Nat} {v:Value} (hi:i<14) (e:bkR r'=(bkR c.r).setIfInBounds i v):CAt (w.setCell ⟨b,i,none⟩ v) lo b g (c.dh r') h:=by
 obtain ⟨cu,hB,hO⟩:=a
 refine ⟨cu,?_,hO.own (ak w b i v)⟩
 have:=Blk.set hB i v
 rw [KO hi e] at this
 exact this
theorem CAt.yV (a:CAt w lo b g c h) (l4:c.r.xs.length=4) {k:Nat} (hk:k<4) (v:Int):CAt (w.setCell ⟨b,k,none⟩ (iv v)) lo b g (c.dh {c.r with xs:=c.r.xs.set k v}) h:=a.reg (by omega) (bkX l4 hk v)
theorem CAt.uV (a:CAt w lo b g c h) (l4:c.r.ys.length=4) {k:Nat} (hk:k<4) (v:Int):CAt (w.setCell ⟨b,4+k,none⟩ (iv v)) lo b g (c.fM k v) h:=a.reg (r':={c.r with ys:=c.r.ys.set k v}) (by omega) (bkY l4 hk v)
theorem CAt.aJ (a:CAt w lo b g c h) (v:Int):CAt (w.setCell ⟨b,9,none⟩ (iv v)) lo b g (c.aJ v) h:=a.reg (r':={c.r with p:=v}) (by omega) rfl
theorem CAt.aB (a:CAt w lo b g c h) (v:Int):CAt (w.setCell ⟨b,10,none⟩ (iv v)) lo b g (c.aB v) h:=a.reg (r':={c.r with f:=v}) (by omega) rfl
theorem CAt.XF (a:CAt w lo b g c h) (l:c.bx.length=512) (v:Bool):CAt (w.setCell ⟨b,527,none⟩ (.bool v)) lo b g {c with st:=v} h:=by
 obtain ⟨cu,hB,hO⟩:=a
 refine ⟨cu,?_,hO.own (ak w b 527 (.bool v))⟩
 have:=Blk.set hB 527 (.bool v)
 rw [KN l] at this
 exact this
theorem CAt.cX (a:CAt w lo b g c h) {k:Nat} (hk:k<4):w.cell? ⟨b,k,none⟩=some (iv (el c.r.xs k)):=by
 obtain ⟨cu,hB,hO⟩:=a
 exact Blk.cell hB ((yC (by omega)).trans (QM hk).1)
theorem CAt.cY (a:CAt w lo b g c h) {k:Nat} (hk:k<4):w.cell? ⟨b,4+k,none⟩=some (iv (el c.r.ys k)):=by
 obtain ⟨cu,hB,hO⟩:=a
 exact Blk.cell hB ((yC (by omega)).trans (QM hk).2)
theorem CAt.cR (a:CAt w lo b g c h) {i:Nat} {v:Value} (hi:i<14) (e:(bkR c.r)[i]? = some v):w.cell? ⟨b,i,none⟩=some v:=by
 obtain ⟨cu,hB,hO⟩:=a
 exact Blk.cell hB ((yC hi).trans e)
theorem CAt.cO (a:CAt w lo b g c h):w.cell? ⟨b,8,none⟩=some (iv c.r.o):=a.cR (by omega) rfl
theorem CAt.cP (a:CAt w lo b g c h):w.cell? ⟨b,9,none⟩=some (iv c.r.p):=a.cR (by omega) rfl
theorem CAt.cF (a:CAt w lo b g c h):w.cell? ⟨b,10,none⟩=some (iv c.r.f):=a.cR (by omega) rfl
theorem CAt.cM (a:CAt w lo b g c h):w.cell? ⟨b,11,none⟩=some (iv c.r.m):=a.cR (by omega) rfl
theorem CAt.cS (a:CAt w lo b g c h):w.cell? ⟨b,12,none⟩=some (.bool c.r.s):=a.cR (by omega) rfl
theorem CAt.cT (a:CAt w lo b g c h):w.cell? ⟨b,13,none⟩=some (.bool c.r.t):=a.cR (by omega) rfl
theorem CAt.cSt (a:CAt w lo b g c h) (l:c.bx.length=512):w.cell? ⟨b,527,none⟩=some (.bool c.st):=by
 obtain ⟨cu,hB,hO⟩:=a
 exact Blk.cell hB (KJ l)
theorem CAt.cH (a:CAt w lo b g c h) (l:c.bx.length=512):w.cell? ⟨b,528,none⟩=some (.bool h):=by
 obtain ⟨cu,hB,hO⟩:=a
 exact Blk.cell hB (Lc l)
theorem CAt.fz (a:CAt w lo b g c h) (i:Nat):w.frozen? ⟨b,i,none⟩=false:=by
 obtain ⟨cu,hB,hO⟩:=a
 exact Blk.frozen hB i
end
theorem CAt.jh {w:World} {lo b g:Nat} {c:Pl.Mc} {h:Bool} (hC:CAt w lo b g c h) (op z r m k e s:Int):∃X:World,(w.alloc (.cells (inA op z r m k e s) 109)).alloc (.cells ftZ 49)=X∧Hid (Kept 0 0 w X)∧Hid (CAt X lo b g c h)∧Hid (Blk X w.heap.size (inA op z r m k e s) 109)∧Hid (Blk X (w.heap.size+1) ftZ 49)∧w.heap.size+1<X.heap.size:=by
 have R:=Blk.new (w.alloc (.cells (inA op z r m k e s) 109)) ftZ 49
 rw [World.size_alloc] at R
 exact ⟨_,rfl,hide ((kept_alloc w _).trans (kept_alloc _ _)),hide ((hC.alloc _).alloc _),hide ((Blk.new w (inA op z r m k e s) _).alloc _),hide R,R.lt⟩
theorem Lp (w:World) (lo b g:Nat) (c:Pl.Mc) (h:Bool) (z k v:Int) (hC:CAt w lo b g c h) (hg:Pl.Good c.r) (k0:0≤k) (k3:k≤3) (hz:z=1∨z=2) (hv:Pl.okv z v=true) :
  Calls prog 195 #[.pointer (some ⟨b,0,none⟩),iv z,iv k,iv v] w fun e w'=>e=.returned (.tuple #[])∧CAt w' lo b g (c.put z k v) h∧Kept b (b+1) w w':=by
 obtain ⟨n,rfl⟩:∃n:Nat,k=(n:Int):=⟨k.toNat,by omega⟩
 have hn:n<4:=by omega
 have ht:=Pl.aP hv
 have HC:=hide hC
 have L4:=hide hg.d4
 have q0:=hC.cX hn
 have f0:=hC.fz n
 obtain ⟨x0,x1⟩:=hg.dw n hn
 have hk:=ak w b n
 have HK:=hide hk
 clear hC hg hk
 rcases hz with rfl|rfl
 ·have hb:=zY x0 x1 (v:=v) (by omega) (by omega)
  clear hv ht
  go_enter func195,ntmps195
  go_wp2_with fail
  go_end0
  exact ⟨rfl,HC.o.yV L4.o hn _,HK.o _⟩
 ·clear hv ht
  go_enter func195,ntmps195
  go_wp2_with fail
  go_end0
  exact ⟨rfl,HC.o.yV L4.o hn _,HK.o _⟩
theorem DZ (w:World) (lo b g:Nat) (c:Pl.Mc) (h:Bool) (n:Int) (hC:CAt w lo b g c h) (hg:Pl.Good c.r) (h0:0≤n) (h1:n≤1023) :
  Calls prog 92 #[.pointer (some ⟨b,0,none⟩),iv n] w fun e w'=>e=.returned (.tuple #[])∧CAt w' lo b g (c.dh (Pl.bJ c.r n)) h∧Kept b (b+1) w w':=by
 have e1:=Qp h0 h1
 have e2:=Qo h0 h1
 have e3:=UX h0 h1
 have e4:=st7 h0 h1
 have HC:=hide hC
 have h4:=hide hg.a4
 have c7:w.cell? ⟨b,7,none⟩=some (iv (el c.r.ys 3)):=hC.cY (k:=3) (by omega)
 have c8:=hC.cO
 have c10:=hC.cF
 have c11:=hC.cM
 have c12:=hC.cS
 have c13:=hC.cT
 have fz:=hC.fz
 clear hC hg
 by_cases hs:Pl.dI n=c.r.s
 ·have q1:(Pl.dI n==c.r.s)=true:=by simp [hs]
  have E:Hid (Pl.bJ c.r n={c.r with s:=Pl.dI n,t:=Pl.fC n,m:=n/32%8,f:=n%32}):=hide (by unfold Pl.bJ;rw [if_pos hs])
  clear hs c7 c8
  go_enter func92,ntmps92
  go_wp2_with fail
  go_end0
  refine ⟨rfl,?_,(((ak _ _ _ _).one _ _).one _ _).one _ _⟩
  rw [E.o]
  exact (((HC.o.reg (r':={c.r with s:=Pl.dI n}) (i:=12) (v:=.bool (Pl.dI n)) (by omega) rfl).reg (r':={c.r with s:=Pl.dI n,t:=Pl.fC n}) (i:=13) (v:=.bool (Pl.fC n)) (by omega) rfl).reg (r':={c.r with s:=Pl.dI n,t:=Pl.fC n,m:=n/32%8}) (i:=11) (v:=iv (n/32%8)) (by omega) rfl).aB (n%32)
 ·have q1:(Pl.dI n==c.r.s)=false:=by simpa using hs
  have E:Hid (Pl.bJ c.r n={c.r with ys:=c.r.ys.set 3 c.r.o,o:=el c.r.ys 3,s:=Pl.dI n,t:=Pl.fC n,m:=n/32%8,f:=n%32}):=hide (by unfold Pl.bJ;rw [if_neg hs])
  clear hs
  go_enter func92,ntmps92
  go_wp2_with fail
  go_region
  go_wp2_with fail
  go_end0
  refine ⟨rfl,?_,ae ((((((ak _ _ _ _).one _ _).one _ _).one _ _).one _ _).one _ _)⟩
  obtain ⟨Y,hY⟩:∃Y,Y=c.r.ys.set 3 c.r.o:=⟨_,rfl⟩
  have a1:CAt (w.setCell ⟨b,7,none⟩ (iv c.r.o)) lo b g (c.dh {c.r with ys:=Y}) h:=by rw [hY];exact HC.o.uV h4.o (k:=3) (by omega) c.r.o
  rw [E.o,←hY]
  clear hY
  have a2:=a1.reg (r':={c.r with ys:=Y,o:=el c.r.ys 3}) (i:=8) (v:=iv (el c.r.ys 3)) (by omega) rfl
  have a3:=a2.reg (r':={c.r with ys:=Y,o:=el c.r.ys 3,s:=Pl.dI n}) (i:=12) (v:=.bool (Pl.dI n)) (by omega) rfl
  have a4:=a3.reg (r':={c.r with ys:=Y,o:=el c.r.ys 3,s:=Pl.dI n,t:=Pl.fC n}) (i:=13) (v:=.bool (Pl.fC n)) (by omega) rfl
  have a5:=a4.reg (r':={c.r with ys:=Y,o:=el c.r.ys 3,s:=Pl.dI n,t:=Pl.fC n,m:=n/32%8}) (i:=11) (v:=iv (n/32%8)) (by omega) rfl
  have a6:=a5.reg (r':={c.r with ys:=Y,o:=el c.r.ys 3,s:=Pl.dI n,t:=Pl.fC n,m:=n/32%8,f:=n%32}) (i:=10) (v:=iv (n%32)) (by omega) rfl
  exact a6.drew
theorem qA (a:Int) (w:World):Calls prog 177 #[iv a] w fun e w'=>e=.returned (.bool (Pl.addr a))∧w'=w:=by
 by_cases h0:0≤a
 all_goals
  by_cases h1:a≤65535
  all_goals
   go_enter func177,ntmps177
   go_wp2
   go_ret
   exact ⟨rB (by simp [Pl.addr,h0,h1]<;>omega),rfl⟩
theorem kJ (a:Int) (w:World):Calls prog 176 #[iv a] w fun e w'=>e=.returned (.bool (Pl.dY a))∧w'=w:=by
 by_cases h0:1≤a
 all_goals
  by_cases h1:a≤3
  all_goals
   go_enter func176,ntmps176
   go_wp2
   go_ret
   exact ⟨rB (by simp [Pl.dY,h0,h1]<;>omega),rfl⟩
theorem zI (a:Int) (w:World) (h0:0≤a) (h1:a≤65535):Calls prog 210 #[iv a] w fun e w'=>e=.returned (.bool (decide (a%2=1)))∧w'=w:=by
 go_enter func210,ntmps210
 go_wp2
 go_ret
 refine ⟨rB ?_,rfl⟩
 rw [Bool.eq_iff_iff]
 simp
 omega
theorem partOf (a:Int) (w:World):Calls prog 211 #[iv a] w fun e w'=>e=.returned (iv (Pl.kind a))∧w'=w:=by
 by_cases h1:512≤a
 ·have E:Hid (Pl.kind a=1):=hide (by simp [Pl.kind,h1])
  go_enter func211,ntmps211
  go_wp2
  go_ret
  exact ⟨rI E.o.symm,rfl⟩
 ·by_cases h2:496≤a
  ·have E:Hid (Pl.kind a=0):=hide (by unfold Pl.kind;rw [if_neg (by omega),if_neg (by omega)])
   go_enter func211,ntmps211
   go_wp2
   go_ret
   exact ⟨rI E.o.symm,rfl⟩
  ·by_cases h3:448≤a
   ·have E:Hid (Pl.kind a=1):=hide (by unfold Pl.kind;rw [if_pos (by omega)])
    go_enter func211,ntmps211
    go_wp2
    go_ret
    exact ⟨rI E.o.symm,rfl⟩
   ·by_cases h4:384≤a
    ·have E:Hid (Pl.kind a=3):=hide (by unfold Pl.kind;rw [if_neg (by omega),if_pos (by omega)])
     go_enter func211,ntmps211
     go_wp2
     go_ret
     exact ⟨rI E.o.symm,rfl⟩
    ·have E:Hid (Pl.kind a=0):=hide (by unfold Pl.kind;rw [if_neg (by omega),if_neg (by omega)])
     go_enter func211,ntmps211
     go_wp2
     go_ret
     exact ⟨rI E.o.symm,rfl⟩
namespace Pl
def tZ (k s a v c:Int):Bool:=okv s v&&(dY k&&(addr a&&(decide (0≤c)&&decide (c≤3))))
theorem qi (k s a v c:Int):fV k s a v c=(tZ k s a v c && !((k==3)&&(c==0))):=by
 unfold fV tZ
 rw [Bool.eq_iff_iff]
 simp only [Bool.and_eq_true,Bool.or_eq_true,Bool.not_eq_true',decide_eq_true_eq,bne_iff_ne,ne_eq,Bool.and_eq_false_iff,beq_eq_false_iff_ne]
 constructor
 ·rintro ⟨a1,a2,a3,a4,a5⟩;exact ⟨⟨a2,a1,a3,a4⟩,a5⟩
 ·rintro ⟨⟨a2,a1,a3,a4⟩,a5⟩;exact ⟨a1,a2,a3,a4,a5⟩
end Pl
theorem vH (k s a v c:Int) (w:World) (lo : -9223372036854775808≤v) (hi:v≤9223372036854775807):Calls prog 130 #[.agg #[iv k,iv s,iv a,iv v,iv c]] w fun e w'=>e=.returned (.bool (Pl.tZ k s a v c))∧∃o,w'=w.alloc o:=by
 cases h1:Pl.okv s v
 ·go_enter func130,ntmps130
  go_wp2_with (first|(go_at_call 128;refine (dE _ _ _ lo hi).mono ?_;rintro e w' ⟨rfl,rfl⟩;rw [h1])|(go_at_call 176;refine (kJ _ _).mono ?_;rintro e w' ⟨rfl,rfl⟩)|(go_at_call 177;refine (qA _ _).mono ?_;rintro e w' ⟨rfl,rfl⟩))
  go_ret
  exact ⟨rB (by unfold Pl.tZ;rw [h1];rfl),_,rfl⟩
 ·cases h2:Pl.dY k
  ·go_enter func130,ntmps130
   go_wp2_with (first|(go_at_call 128;refine (dE _ _ _ lo hi).mono ?_;rintro e w' ⟨rfl,rfl⟩;rw [h1])|(go_at_call 176;refine (kJ _ _).mono ?_;rintro e w' ⟨rfl,rfl⟩;rw [h2])|(go_at_call 177;refine (qA _ _).mono ?_;rintro e w' ⟨rfl,rfl⟩))
   go_ret
   exact ⟨rB (by unfold Pl.tZ;rw [h1,h2];rfl),_,rfl⟩
  ·cases h3:Pl.addr a
   ·go_enter func130,ntmps130
    go_wp2_with (first|(go_at_call 128;refine (dE _ _ _ lo hi).mono ?_;rintro e w' ⟨rfl,rfl⟩;rw [h1])|(go_at_call 176;refine (kJ _ _).mono ?_;rintro e w' ⟨rfl,rfl⟩;rw [h2])|(go_at_call 177;refine (qA _ _).mono ?_;rintro e w' ⟨rfl,rfl⟩;rw [h3]))
    go_ret
    exact ⟨rB (by unfold Pl.tZ;rw [h1,h2,h3];rfl),_,rfl⟩
   ·cases h4:decide (0≤c)
    all_goals
     cases h5:decide (c≤3)
     all_goals
      go_enter func130,ntmps130
      go_wp2_with (first|(go_at_call 128;refine (dE _ _ _ lo hi).mono ?_;rintro e w' ⟨rfl,rfl⟩;rw [h1])|(go_at_call 176;refine (kJ _ _).mono ?_;rintro e w' ⟨rfl,rfl⟩;rw [h2])|(go_at_call 177;refine (qA _ _).mono ?_;rintro e w' ⟨rfl,rfl⟩;rw [h3]))
      go_ret
      exact ⟨rB (by unfold Pl.tZ;rw [h1,h2,h3,h4,h5];rfl),_,rfl⟩
theorem rE (k s a v c:Int) (w:World) (lo : -9223372036854775808≤v) (hi:v≤9223372036854775807):Calls prog 88 #[.agg #[iv k,iv s,iv a,iv v,iv c]] w fun e w'=>e=.returned (.bool (Pl.fV k s a v c))∧∃o p,w'=(w.alloc o).alloc p:=by
 cases h1:Pl.tZ k s a v c
 ·go_enter func88,ntmps88
  go_wp2_with (go_at_call 130;refine (vH _ _ _ _ _ _ lo hi).mono ?_;rintro e w' ⟨rfl,o,rfl⟩;rw [h1])
  go_ret
  exact ⟨rB (by rw [Pl.qi,h1];rfl),_,_,rfl⟩
 ·cases h2:(k==3)
  ·go_enter func88,ntmps88
   go_wp2_with (go_at_call 130;refine (vH _ _ _ _ _ _ lo hi).mono ?_;rintro e w' ⟨rfl,o,rfl⟩;rw [h1])
   go_ret
   exact ⟨rB (by rw [Pl.qi,h1,h2];rfl),_,_,rfl⟩
  ·cases h3:(c==0)
   all_goals
    go_enter func88,ntmps88
    go_wp2_with (go_at_call 130;refine (vH _ _ _ _ _ _ lo hi).mono ?_;rintro e w' ⟨rfl,o,rfl⟩;rw [h1])
    go_ret
    exact ⟨rB (by rw [Pl.qi,h1,h2,h3];rfl),_,_,rfl⟩
theorem XP (v:Int):Pl.okv 1 v=Pl.jB v:=by
 unfold Pl.okv Pl.jB Pl.top
 rw [Bool.eq_iff_iff];simp;omega
theorem isByte (v:Int) (w:World) (lo : -9223372036854775808≤v) (hi:v≤9223372036854775807) :
  Calls prog 129 #[iv v] w fun e w'=>e=.returned (.bool (Pl.jB v))∧w'=w:=by
 go_enter func129,ntmps129
 go_wp2_with (go_at_call 128;refine (dE _ _ _ lo hi).mono ?_;rintro e w' ⟨rfl,hw⟩;have hw2:=hw.symm;clear hw;subst hw2;rw [XP])
 go_ret
 exact ⟨rfl,rfl⟩
theorem wz (w:World) (a:Option Addr) (ca:Nat) (xs:List Int) (ha:Came w a xs) (lx:xs.length≤2000000) :
  Calls prog 87 #[.slice a xs.length ca] w fun e w'=>e=.returned (.bool (Pl.bH xs))∧w'=w:=by
 have HA:=hide ha
 clear ha
 go_enter func87,ntmps87
 go_wp2
 go_loop [4,7] (fun _ j=>∃k:Nat,k≤xs.length∧j=iv k∧∀i,i<k→Pl.jB (el xs i)=true) (fun _ j=>xs.length-(intOf j).toNat)
 case atStart=>exact ⟨0,Nat.zero_le _,rfl,fun i hi=>absurd hi (Nat.not_lt_zero i)⟩
 case round=>
  obtain ⟨k,hk,rfl,heq⟩:=hrel
  have HE:=hide heq
  clear heq
  by_cases hlt:k<xs.length
  ·obtain ⟨g1,o1,rfl,hc1⟩:=HA.o.1 k hlt
   obtain ⟨lo,hi⟩:=HA.o.2 k hlt
   rw [show xs[k]?.getD 0=el xs k from rfl] at hc1 lo hi
   cases hb:Pl.jB (el xs k)
   ·go_wp2_with (go_at_call 129;refine (isByte _ _ lo hi).mono ?_;rintro e w' ⟨rfl,rfl⟩;rw [hb])
    go_ret
    exact ⟨rB (Pl.vX hlt hb).symm,rfl⟩
   ·go_wp2_with (go_at_call 129;refine (isByte _ _ lo hi).mono ?_;rintro e w' ⟨rfl,rfl⟩;rw [hb])
    go_round
    case rel=>exact ⟨k+1,by omega,by go_num,kS HE.o hb⟩
    case measure=>simp [intOf];omega
  ·go_wp2
   go_ret
   exact ⟨rB (Pl.qM (fun i hi=>HE.o i (by omega))).symm,rfl⟩
theorem Um.at5 {ys:List Int} (h:Um ys) {m k:Nat} (hl:ys.length=5*m) (hk:k<m) : -9223372036854775808≤el ys (k*5+3)∧el ys (k*5+3)≤9223372036854775807:=h (k*5+3) (by omega)
theorem fF (w:World) (a b:Option Addr) (ca cb m:Nat) (xs ys:List Int) (ha:Came w a xs) (hb:Came w b ys) (lx:xs.length≤2000000) (ly:ys.length=5*m) (bm:m≤2000000) :
  Calls prog 54 #[.agg #[.slice a xs.length ca,.slice b m cb]] w fun e w'=>e=.returned (.bool (Pl.fF xs ys m))∧Kept 0 0 w w':=by
 have HA:=hide ha
 have HB:=hide hb
 have HY:=hide ly
 have HK0:=hide (kept_alloc w (.cells #[.slice a xs.length ca,.slice b m cb] 34))
 clear ha hb ly
 cases h1:((xs.length:Int) != 512)
 ·have hl5:xs.length=512:=by simp at h1;omega
  have G:Hid (Pl.fF xs ys m=(Pl.jD ys m&&(Pl.bH xs&&decide (m≤400)))):=hide (by
   unfold Pl.fF
   rw [show decide (xs.length=512)=true from by simp [hl5],Bool.true_and])
  clear hl5
  cases h2:Pl.bH xs
  ·go_enter func54,ntmps54
   go_wp2_with (go_at_call 87;refine (wz _ a ca xs (HA.o.ai HK0.o) lx).mono ?_;rintro e w' ⟨rfl,rfl⟩;rw [h2])
   go_ret
   exact ⟨rB (by rw [G.o,h2,Bool.false_and,Bool.and_false]),HK0.o⟩
  ·cases h3:decide ((400:Int)<(m:Int))
   ·go_enter func54,ntmps54
    go_wp2_with (first|(go_at_call 87;refine (wz _ a ca xs (HA.o.ai HK0.o) lx).mono ?_;rintro e w' ⟨rfl,rfl⟩;rw [h2])|fail)
    obtain ⟨W,hW⟩:∃W:World,W=w.alloc (.cells #[.slice a xs.length ca,.slice b m cb] 34):=⟨_,rfl⟩
    rw [←hW] at HK0 ⊢
    clear hW
    go_loopw [4,24] (fun _ j wr=>∃k:Nat,k≤m∧j=iv k∧(∀i,i<k→Pl.rU ys i=true)∧Kept 0 0 W wr) (fun _ j _=>m-(intOf j).toNat)
    case atStart=>exact ⟨0,Nat.zero_le _,rfl,fun i hi=>absurd hi (Nat.not_lt_zero i),Kept.refl _ _ _⟩
    case round=>
     obtain ⟨k,hk,rfl,heq,hkept⟩:=hrel
     have HE:=hide heq
     have HK:=hide hkept
     clear heq hkept
     by_cases hlt:k<m
     ·obtain ⟨lo,hi⟩:=HB.o.2.at5 HY.o hlt
      obtain ⟨g1,o1,rfl,p0,p1,p2,p3,p4⟩:=((HB.o.ai (HK0.o.trans HK.o)).1).five HY.o hlt
      cases hb:Pl.rU ys k
      ·have hb2:Pl.fV (el ys (k*5)) (el ys (k*5+1)) (el ys (k*5+2)) (el ys (k*5+3)) (el ys (k*5+4))=false:=hb
       clear hb
       go_wp2_with (go_at_call 88;refine (rE _ _ _ _ _ _ lo hi).mono ?_;rintro e w' ⟨rfl,o,p,rfl⟩;rw [hb2])
       go_ret
       exact ⟨rB (by unfold Pl.fF;rw [Pl.xm hlt hb2];rfl),HK0.o.trans (ah (ah (ah HK.o _) _) _)⟩
      ·have hb2:Pl.fV (el ys (k*5)) (el ys (k*5+1)) (el ys (k*5+2)) (el ys (k*5+3)) (el ys (k*5+4))=true:=hb
       clear hb
       go_wp2_with (go_at_call 88;refine (rE _ _ _ _ _ _ lo hi).mono ?_;rintro e w' ⟨rfl,o,p,rfl⟩;rw [hb2])
       go_roundw
       case rel=>exact ⟨k+1,by omega,by go_num,kS HE.o hb2,ah (ah (ah HK.o _) _) _⟩
       case measure=>simp [intOf];omega
     ·have HA1:Hid (Pl.jD ys m=true):=hide (Pl.xk (fun i hi=>HE.o i (by omega)))
      go_wp2_with fail
      go_ret
      refine ⟨rB ?_,HK0.o.trans HK.o⟩
      rw [G.o,HA1.o,h2]
      simp at h3
      simp;omega
   ·go_enter func54,ntmps54
    go_wp2_with (go_at_call 87;refine (wz _ a ca xs (HA.o.ai HK0.o) lx).mono ?_;rintro e w' ⟨rfl,rfl⟩;rw [h2])
    go_ret
    refine ⟨rB ?_,HK0.o⟩
    rw [G.o]
    simp at h3
    rw [show decide (m≤400)=false from by simp;omega]
    simp
 ·have hl5:Hid (¬xs.length=512):=hide (by simp at h1;omega)
  go_enter func54,ntmps54
  go_wp2_with (go_at_call 87;fail)
  go_ret
  refine ⟨rB ?_,HK0.o⟩
  unfold Pl.fF
  rw [show decide (xs.length=512)=false from by simp [hl5.o]]
  simp
def zeros:List Int:=List.replicate 512 0
theorem fK:zeros.length=512:=List.length_replicate ..
theorem Tryz.DI:(prog.info? 88).map (fun i=>(i.zero,i.size))=some (some (.agg (cellsOf zeros)),512):=by kernel_rfl
theorem Tryz.NU:∀w,(zeroValue 88).run prog w=.ok (.agg (cellsOf zeros)) w:=(zero_of_info Tryz.DI).1
theorem Tryz.xN:(prog.info? 88).map (·.size)=some 512:=(zero_of_info Tryz.DI).2
theorem IK (w : World) (a b : Option Addr) (ca cb m : Nat) (xs : List Int) (ha : aI w a xs) (lx : xs.length = 512) :
    Calls prog 89 #[.agg #[.slice a xs.length ca, .slice b m cb]] w fun e w' => e = .returned (.agg (cellsOf xs)) ∧ Kept 0 0 w w' := by
  obtain ⟨ga, oa, rfl, _⟩ := ha 0 (by omega)
  have HA := hide ha
  have HX := hide lx
  clear ha lx
  have mz := Tryz.NU
  have HS : Hid ((prog.info? 3).map (·.size) = some 1) := hide (by kernel_rfl)
  go_enter func89, ntmps89
  go_wp2_with fail
  have K := hide (ah (ah (kept_alloc w (.cells #[.slice (some ⟨ga, oa, none⟩) xs.length ca, .slice b m cb] 34)) (.cells (cellsOf zeros) 88)) (.cells (cellsOf zeros) 88))
  have B0 := (((Blk.new w #[.slice (some ⟨ga, oa, none⟩) xs.length ca, .slice b m cb] 34).alloc (.cells (cellsOf zeros) 88)).alloc (.cells (cellsOf zeros) 88))
  have B1 := ((Blk.new (w.alloc (.cells #[.slice (some ⟨ga, oa, none⟩) xs.length ca, .slice b m cb] 34)) (cellsOf zeros) 88).alloc (.cells (cellsOf zeros) 88))
  have B2 := Blk.new ((w.alloc (.cells #[.slice (some ⟨ga, oa, none⟩) xs.length ca, .slice b m cb] 34)).alloc (.cells (cellsOf zeros) 88)) (cellsOf zeros) 88
  simp only [World.size_alloc] at B1 B2
  obtain ⟨W, hW⟩ : ∃ W : World, W = (((w.alloc (.cells #[.slice (some ⟨ga, oa, none⟩) xs.length ca, .slice b m cb] 34)).alloc (.cells (cellsOf zeros) 88)).alloc (.cells (cellsOf zeros) 88)) := ⟨_, rfl⟩
  rw [← hW] at K B0 B1 B2 ⊢
  clear hW
  have p0 := B0.cell (i := 0) rfl
  have H1 := hide B1
  have H2 := hide B2
  clear B0 B1 B2
  have HZ : Hid ((prog.info? 88).map (·.size) = some (cellsOf xs).size) := hide (by rw [cellsOf_size, HX.o]; exact Tryz.xN)
  have HZ2 : Hid ((cellsOf zeros).size = (cellsOf xs).size) := hide (by rw [cellsOf_size, cellsOf_size, HX.o, fK])
  have HN : Hid ((xs.map (Value.int .i64)).length = Nat.min xs.length 512) := hide (by rw [HX.o]; simp [HX.o])
  have HF : Hid (0 + (xs.map (Value.int .i64)).length ≤ (zeros.map (Value.int .i64)).length) := hide (by simp [HX.o, fK])
  go_region_law (refine step_copy_splice rfl (.tmp 4) (.tmp 6) 22 22 rfl 3 underlying22 HS.o _ _ _ _ _ _ rfl rfl (w.heap.size + 1 + 1) 0 (zeros.map (Value.int .i64)) 88 ?hg (xs.map (Value.int .i64)) HN.o ?hpos HF.o iH (w.heap.size + 1 + 1) W ?hb (Nat.le_refl _) ?_
                 (case hg => exact H2.o)
                 (case hb => exact (Below.refl _ W).drew)
                 (case hpos => intro _; exact ⟨rfl, _, rfl, iO (HA.o.ai (ae K.o))⟩)
                 intro w4 hg4 hb4)
  all_goals
    have D2 : Hid (Blk w4 (w.heap.size + 1 + 1) (cellsOf xs) 88) := hide (by
      have h := hg4.o
      rw [AB (by simp [HX.o, fK])] at h
      exact h)
    have D1 : Hid (Blk w4 (w.heap.size + 1) (cellsOf zeros) 88) := hide ((hb4.block _ (by omega)).trans H1.o)
    have K4 : Hid (Kept 0 0 w w4) := hide (dH K.o hb4 (by omega))
    clear hg4 hb4
    go_wp2_with (first | (refine wpList_load_row rfl 88 (.tmp 3) rfl (w.heap.size + 1 + 1) rfl 88 (cellsOf xs) (0, 0) _ D2.o underlying88 rfl HZ.o ?_) | (refine wpList_store_row rfl 88 (.tmp 2) (.tmp 8) rfl (w.heap.size + 1) (cellsOf xs) rfl rfl 88 (cellsOf zeros) D1.o HZ.o HZ2.o (uj xs) ?_))
    refine bodyPost_ret (v := .agg (cellsOf xs)) ?_ rfl ⟨rfl, lJ K4.o _ _ (by omega)⟩
    exact results_cell_row rfl _ _ _ _ _ (0, 0) _ rfl D1.o.setRow underlying88 rfl HZ.o
theorem NW (w:World) (xs:List Int) (lx:xs.length=512) :
  Calls prog 98 #[.agg (cellsOf xs)] w fun e w'=>∃g:Nat,e=.returned (.slice (some ⟨g,0,none⟩) 512 512)∧Blk w' g (cellsOf xs) 3∧w.heap.size≤g∧Kept 0 0 w w':=by
 obtain ⟨i,hi,hz0,hz1,hz2⟩:=info_parts Tryz.info3
 have HS:Hid ((prog.info? 3).map (·.size)=some 1):=hide (by kernel_rfl)
 have HX:=hide lx
 clear lx
 go_enter func98,ntmps98
 go_wp2_with (first|(at_make;refine wpList_make_full _ rfl _ _ 22 rfl w.heap.size 3 i (iv 0) 1 underlying22 hi hz0 hz1 _ _ _ _ 512 rfl rfl rfl rfl ?c1 ?c2 ?c3 ?_))
 case c1=>rw [hz2];decide
 case c2=>unfold maxLen;decide
 case c3=>simp
 intro w1 hown hg
 have K1:=hide ((kept_alloc w (.cells (cellsOf xs) 88)).trans (bP hg))
 have B0:=hide ((Blk.new w (cellsOf xs) 88).af (bP hg))
 have B1:Hid (Blk w1 (w.heap.size+1) (cellsOf zeros) 3):=hide (by
  have h:=vY hown
  have e:(madeCells #[Value.int .i64 0] 512).toList=zeros.map (Value.int .i64):=by
   rw [toList_madeCells_one,zeros,List.map_replicate]
  rw [e] at h
  exact h)
 clear hown hg
 have HR:Hid (aI w1 (some ⟨w.heap.size,0,none⟩) xs):=hide (jM B0.o).row
 have hcopy:(Builtin.copy_ #[22,22] 3 #[.slice (some ⟨w.heap.size+1,0,none⟩) 512 512,.slice (some ⟨w.heap.size,0,none⟩) 512 512]).run prog w1=.ok (iv 512) (w1.setRow (w.heap.size+1) (cellsOf xs)):=by
  have h:=run_copy_row prog w1 22 22 3 3 (w.heap.size+1) 0 512 512 ⟨w.heap.size,0,none⟩ 512 512 (cellsOf zeros) 3 (xs.map (Value.int .i64)) underlying22 HS.o B1.o (by simp [HX.o]) (iO HR.o) (by simp [HX.o,cellsOf_size,fK]) iH
  rw [h]
  have e:(List.take 0 (cellsOf zeros).toList++xs.map (Value.int .i64)++List.drop (0+(xs.map (Value.int .i64)).length) (cellsOf zeros).toList)=xs.map (Value.int .i64):=by
   rw [List.drop_eq_nil_of_le (by simp [HX.o,cellsOf_size,fK])];simp
  rw [e,show (xs.map (Value.int .i64)).length=512 by simp [HX.o]]
  rfl
 go_wp2_with fail
 have hl:=B1.o.lt
 refine bodyPost_ret (results_tmp rfl _ _ _) rfl ⟨w.heap.size+1,rfl,B1.o.setRow,by omega,lJ K1.o _ _ (by omega)⟩
theorem Dq (w:World) (xs:List Int) (s n:Nat) (lx:xs.length=512) (hb:Pl.bH xs=true) (s0:1≤s) (s1:s≤2) (hn:n+s≤512) :
  Calls prog 213 #[.agg (cellsOf xs),iv s,iv n] w fun e w'=>e=.returned (iv (Pl.rd xs s n))∧Kept 0 0 w w':=by
 have HX:=hide lx
 have HO:=hide (jM (Blk.new w (cellsOf xs) 88))
 have HK:=hide (kept_alloc w (.cells (cellsOf xs) 88))
 have HB:=hide hb
 have HS0:=hide s0
 have HN:Hid (n+s≤512):=hide hn
 clear lx hb
 have hsl:∀W:World,(Instr.sliceAt 88 (.pointer (some ⟨w.heap.size,0,none⟩)) (some (iv (n:Int))) (some (iv ((n:Int)+(s:Int)))) none).run prog W=.ok (.slice (some ⟨w.heap.size,n,none⟩) s (512-n)) W:=by
  intro W
  have hlen:prog.arrayLen 88=512:=by kernel_rfl
  have hel:prog.elem 88=3:=by kernel_rfl
  have ht:prog.underlying 88=some (.array (prog.arrayLen 88) (prog.elem 88)):=by kernel_rfl
  obtain ⟨i,hi,hz0,hz1,hz2⟩:=info_parts Tryz.info3
  rw [run_sliceAt_array_lh W 88 _ ht .i64 .i64 n ((n:Int)+(s:Int)) (by omega) (by omega) (by rw [hlen];omega),hlen,hel]
  have e1:((n:Int)).toNat=n:=by omega
  have e2:((n:Int)+(s:Int)).toNat-n=s:=by omega
  have q1:¬512=n:=by omega
  simp only [sizeOf,typeInfo,Sem.run_bind,Sem.run_pure,slicedAt,e1,e2,q1,if_false]
  simp [hi,hz1,Addr.add]
  intro h0;exact h0.symm
 go_enter func213,ntmps213
 go_wp2_with fail
 go_loop [7,9,16] (fun v _ j=>∃k:Nat,k≤s∧j=iv k∧v=iv (Pl.rdK xs n k)) (fun _ _ j=>s-(intOf j).toNat)
 case atStart=>exact ⟨0,Nat.zero_le _,rfl,rfl⟩
 case round=>
  obtain ⟨k,hk,rfl,rfl⟩:=hrel
  by_cases hlt:k<s
  ·obtain ⟨hc,_⟩:=HO.o (n+k) (by rw [HX.o];omega)
   have b0:=Pl.dP HB.o n (by rw [HX.o];omega)
   have b1:=Pl.dP HB.o (n+k) (by rw [HX.o];omega)
   rw [show xs[n+k]?.getD 0=el xs (n+k) from rfl] at hc
   obtain ⟨b00,b01⟩:=b0
   obtain ⟨b10,b11⟩:=b1
   by_cases hk0:k=0
   ·subst hk0
    have hor:=Pl.uo (h:=0) (by decide) (by decide) b10 b11
    rw [Int.zero_mul,Int.zero_add] at hor
    rw [Nat.add_zero] at hc hor b10 b11
    rw [show Pl.rdK xs n 0=0 from rfl]
    go_wp2
    go_round
    case rel=>exact ⟨1,by omega,rfl,rfl⟩
    case measure=>simp [intOf];omega
   ·obtain rfl:k=1:=by omega
    have hor:=Pl.uo b00 b01 b10 b11
    rw [show Pl.rdK xs n 1=el xs n from rfl]
    go_wp2
    go_round
    case rel=>exact ⟨2,by omega,rfl,rfl⟩
    case measure=>simp [intOf];omega
  ·have E:Hid (Pl.rdK xs n k=Pl.rd xs s n):=hide (by
    have:k=1∨k=2:=by omega
    unfold Pl.rdK Pl.rd
    rcases this with rfl|rfl
    ·rw [if_neg (by decide),if_pos rfl,if_pos (by omega)]
    ·rw [if_neg (by decide),if_neg (by decide),if_neg (by omega)])
   go_wp2
   go_ret
   exact ⟨rI E.o,HK.o⟩
end Go.Proofs.YtkkmnnhaailkcaaGreatDoor
