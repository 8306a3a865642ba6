/- Part 12 of what the last text leans on. -/
import Derived.Test.YtgikibaajanjiaaGreatDoorJC11
import Derived.Test.YtgikibaajanjiaaGreatDoorJC1
import Derived.Test.YtgikibaajanjiaaGreatDoorJC2
import Derived.Laws.CopyOwn
import Derived.Laws.Rows
import Derived.Laws.Tables
import Derived.Deep.WholeRow
import Derived.Deep.RegionLawGrows
import Derived.Deep.RegionHeld3
import Derived.Deep.MidRow
import Derived.Deep.AppendLies
import Derived.Deep.QuietTactic
import Derived.BigQuiet
set_option maxRecDepth 100000
set_option maxHeartbeats 16000000
namespace Go.Proofs.YtgikibaajanjiaaGreatDoor
open Pl
open Go.RowKit Go.Proofs.Tryz
set_option linter.unusedVariables false
theorem Pl.GM.step {c:Cp} (h:dJ c=true) (hl:c.bl.length=5*c.bm):GM (Pl.stepM c):=by
 have g:GM (Mc.ofC c):=GM.of h hl c.st;have gf:=GM.fetch g
 have h1:GM (Mc.ofC c).s1:=by
  unfold Mc.s1;cases ((Mc.ofC c).fetch.fine&&(jh (Mc.ofC c).aA && !(Mc.ofC c).fetch.r.s))
  ·exact gf
  ·exact gf.ft _
 unfold Pl.stepM Mc.s2;cases hs:(Mc.ofC c).s1.fine
 ·exact h1
 ·have hf:(Mc.ofC c).fetch.fine=true:=by
   cases q:(Mc.ofC c).fetch.fine
   ·unfold Mc.s1 at hs;rw [q] at hs;simp only [Bool.false_and,cond_false] at hs;rw [q] at hs;exact hs
   ·rfl
  exact (h1.aF (by omega) (by omega)).doI (oZ hf).1 _
theorem Pl.Ar {xs:List Int} (h:∀i,i<xs.length->0<=el xs i∧el xs i<=65535):xs.all aJ=true:=by
 rw [List.all_eq_true];intro x hx;obtain ⟨i,hi,rfl⟩:=List.getElem_of_mem hx;have:=h i hi;simp [el,List.getElem?_eq_getElem hi] at this;simp [aJ,within];omega
theorem Pl.xE {r:Rg} (g:Pl.Good r) (p0:0<=r.p) (p1:r.p<=65535):rW r=true:=by
 have a1:=Ar (xs:=r.xs) (fun i hi=>g.dw i (by have:=g.d4;omega));have a2:=Ar (xs:=r.ys) (fun i hi=>g.aw i (by have:=g.a4;omega));have h1:=g.d4;have h2:=g.a4;have h3:=g.o0;have h4:=g.o1;have h5:=g.f0;have h6:=g.f1;have h7:=g.m0;have h8:=g.m1;simp only [rW,iP,a1,a2,aJ,within,Bool.true_and,Bool.and_eq_true,decide_eq_true_eq];omega
theorem Pl.rP {c:Cp} (h:dJ c=true) (hl:c.bl.length=5*c.bm):dJ (dB c)=true∧(dB c).bl.length=5*(dB c).bm:=by
 have g:=GM.of h hl c.st;have gs:=GM.step h hl
 have hb:∀(r:Rg) (st:Bool),rW r=true->dJ ⟨r,(Pl.stepM c).bx,(Pl.stepM c).bl,(Pl.stepM c).bm,st,false⟩=true:=by
  intro r st hr;simp [dJ,hr,Pl.eu,gs.ac,gs.bx,gs.ok,gs.bm]
 unfold dB;cases (Pl.stepM c).fine
 ·exact ⟨hb _ _ (xE g.g g.p0 g.p1),gs.bl⟩
 ·exact ⟨hb _ _ (xE gs.g gs.p0 gs.p1),gs.bl⟩
def Pl.nI (c:Cp) (n:Int):Bool:=dJ c&&within n 0 60
structure CpO (w:World) (base O:Nat) (c:Cp) (gd ga g1 g2:Nat):Prop where
 d:Own w gd c.r.xs
 a:Own w ga c.r.ys
 b:Own w g1 c.bx
 l:Own w g2 c.bl
 d0:base<=gd
 d1:gd<w.heap.size
 a0:base<=ga
 a1:ga<w.heap.size
 b0:base<=g1
 b1:g1<w.heap.size
 l0:base<=g2
 l1:g2<w.heap.size
 dO:gd≠O
 aO:ga≠O
 bO:g1≠O
 lO:g2≠O
 n1:gd≠ga
 n2:gd≠g1
 n3:gd≠g2
 n4:ga≠g1
 n5:ga≠g2
 n6:g1≠g2
theorem CO.cpO {w:World} {lo mid gd ga g1 g2 c2 base O:Nat} {c:Cp} (h:CO w lo mid c gd ga g1 g2 c2) (hb:base<=lo) (hO:O<lo∨w.heap.size<=O):CpO w base O c gd ga g1 g2:=by
 have:=h.d0;have:=h.d1;have:=h.a0;have:=h.a1;have:=h.da;have:=h.b0;have:=h.b1;have:=h.bl
 have q:=h.l.lt g2 rfl;exact ⟨h.d,h.a,h.b,dh h.l,by omega,by omega,by omega,by omega,by omega,by omega,by omega,by omega,by omega,by omega,by omega,by omega,by omega,by omega,by omega,by omega,by omega,by omega⟩
theorem CpO.kept {w w':World} {base O lo hi gd ga g1 g2:Nat} {c:Cp} (h:CpO w base O c gd ga g1 g2) (k:Kept lo hi w w') (hh:∀i,lo<=i->i<hi->i<base∨i=O):CpO w' base O c gd ga g1 g2:=by
 have:=h.d0;have:=h.a0;have:=h.b0;have:=h.l0;have:=k.size
 have h1:=h.d1;have h2:=h.a1;have h3:=h.b1;have h4:=h.l1;have q:∀g,base<=g->g≠O->¬(lo<=g∧g<hi):=fun g a b c=>by have:=hh g c.1 c.2;omega
 exact ⟨h.d.ai k (q _ h.d0 h.dO),h.a.ai k (q _ h.a0 h.aO),h.b.ai k (q _ h.b0 h.bO),h.l.ai k (q _ h.l0 h.lO),h.d0,by omega,h.a0,by omega,h.b0,by omega,h.l0,by omega,h.dO,h.aO,h.bO,h.lO,h.n1,h.n2,h.n3,h.n4,h.n5,h.n6⟩
theorem CpO.Xl {w:World} {base O gd ga g1 g2 lo:Nat} {c:Cp} (h:CpO w base O c gd ga g1 g2) (hl:lo<=base):qw w lo c (some (aac gd 0)) (some (aac ga 0)) (some (aac g1 0)) (some (aac g2 0)):=by
 have:=h.d0;have:=h.a0;have:=h.b0;have:=h.l0
 refine ⟨.inr ⟨gd,rfl,by omega,h.d1,h.d⟩,.inr ⟨ga,rfl,by omega,h.a1,h.a⟩,.inr ⟨g1,rfl,by omega,h.b1,h.b⟩,.inr ⟨g2,rfl,by omega,h.l1,h.l⟩,?_,?_,?_,?_,?_,?_⟩
 ·intro g e1 e2;simp [blk] at e1 e2;have:=h.n1;omega
 ·intro g e1 e2;simp [blk] at e1 e2;have:=h.n2;omega
 ·intro g e1 e2;simp [blk] at e1 e2;have:=h.n3;omega
 ·intro g e1 e2;simp [blk] at e1 e2;have:=h.n4;omega
 ·intro g e1 e2;simp [blk] at e1 e2;have:=h.n5;omega
 ·intro g e1 e2;simp [blk] at e1 e2;have:=h.n6;omega
structure Pl.WfR (d:Rg):Prop where
 o:(Lit.int .i64 d.o).wf=true
 p:(Lit.int .i64 d.p).wf=true
 f:(Lit.int .i64 d.f).wf=true
 m:(Lit.int .i64 d.m).wf=true
theorem wfB {v:Int} (h:(Lit.int .i64 v).wf=true) : -9223372036854775808<=v∧v<=9223372036854775807:=bounds_i64 h
theorem YU (v:Int):okv 2 v=aJ v:=by
 unfold okv aJ within Pl.top;rw [Bool.eq_iff_iff];simp;omega
theorem isWord (v:Int) (w:World) (lo : -9223372036854775808<=v) (hi:v<=9223372036854775807) :
  Calls prog 64 #[iv v] w fun e w'=>e=.returned (.bool (aJ v))∧w'=w:=by
 go_enter func64,ntmps64;go_wp2_with (go_at_call 120;refine st (bU _ _ _ lo hi) ?_;rw [YU]);go_ret;exact ⟨rfl,rfl⟩
theorem Xa (k:Int) (w:World):Calls prog 169 #[iv k] w fun e w'=>e=.returned (.bool (within k 0 3))∧w'=w:=by
 by_cases h0:0<=k
 ·by_cases h1:k<=3
  ·go_enter func169,ntmps169;go_wp2;go_ret;exact ⟨rB (by simp [within,h0,h1]),rfl⟩
  ·go_enter func169,ntmps169;go_wp2;go_ret;exact ⟨rB (by simp [within,h0];omega),rfl⟩
 ·go_enter func169,ntmps169;go_wp2;go_ret;exact ⟨rB (by simp [within];omega),rfl⟩
theorem gX (v:Int) (w:World):Calls prog 178 #[iv v] w fun e w'=>e=.returned (iv (v%65536))∧w'=w:=by
 have hW:=IntKind.wrap_u16 v;go_enter func178,ntmps178;go_wp2;go_ret;exact ⟨rfl,rfl⟩
theorem qY (k:Int) (w:World):Calls prog 191 #[iv k] w fun e w'=>e=.returned (.bool (within k 0 31))∧w'=w:=by
 by_cases h0:0<=k
 ·by_cases h1:k<=31
  ·go_enter func191,ntmps191;go_wp2;go_ret;exact ⟨rB (by simp [within,h0,h1]),rfl⟩
  ·go_enter func191,ntmps191;go_wp2;go_ret;exact ⟨rB (by simp [within,h0];omega),rfl⟩
 ·go_enter func191,ntmps191;go_wp2;go_ret;exact ⟨rB (by simp [within];omega),rfl⟩
theorem dY (w:World) (a:Option Addr) (ca:Nat) (xs:List Int) (ha:Came w a xs) (lx:xs.length<=2000000) :
  Calls prog 190 #[.slice a xs.length ca] w fun e w'=>e=.returned (.bool (xs.all aJ))∧w'=w:=by
 have HA:=aab ha;clear ha;go_enter func190,ntmps190;go_wp2;go_loop [4,7] (fun _ j=>∃k:Nat,k<=xs.length∧j=iv k∧∀i,i<k->aJ (el xs i)=true) (fun _ j=>xs.length-(intOf j).toNat)
 case atStart=>exact ⟨0,Nat.zero_le _,rfl,fun i hi=>absurd hi (Nat.not_lt_zero i)⟩
 case round=>
  obtain ⟨k,hk,rfl,heq⟩:=hrel;have HE:=aab heq;clear heq;by_cases hlt:k<xs.length
  ·obtain ⟨g1,o1,rfl,hc1⟩:=HA.o.1 k hlt;obtain ⟨lo,hi⟩:=HA.o.2 k hlt;rw [show xs[k]?.getD 0=el xs k from rfl] at hc1 lo hi;cases hb:aJ (el xs k)
   ·go_wp2_with (go_at_call 64;refine st (isWord _ _ lo hi) ?_;rw [hb]);go_ret;refine ⟨rB ?_,rfl⟩;have hm:xs[k]'hlt∈xs:=List.getElem_mem hlt;have he:el xs k=xs[k]'hlt:=by simp [el,List.getElem?_eq_getElem hlt]
    rw [he] at hb;cases hq:xs.all aJ
    ·rfl
    ·have:=List.all_eq_true.1 hq _ hm
     rw [hb] at this;cases this
   ·go_wp2_with (go_at_call 64;refine st (isWord _ _ lo hi) ?_;rw [hb]);go_round
    case rel=>exact ⟨k+1,by omega,by go_num,kN HE.o hb⟩
    case measure=>simp [intOf];omega
  ·go_wp2;go_ret;refine ⟨rB ?_,rfl⟩;symm;rw [List.all_eq_true];intro x hx;obtain ⟨i,hi,rfl⟩:=List.getElem_of_mem hx;have:=HE.o i (by omega);simpa [el,List.getElem?_eq_getElem hi] using this
theorem yO (z k:Int) (w:World) (hz:z=1∨z=2):Calls prog 279 #[iv z,iv k] w fun e w'=>e=.returned (iv (byN z k))∧w'=w:=by
 by_cases h:k=3
 ·subst h;go_enter func279,ntmps279;go_wp2;go_ret;exact ⟨rI (by simp [byN]),rfl⟩
 ·go_enter func279,ntmps279;go_wp2;go_ret;exact ⟨rI (by rcases hz with rfl|rfl<;>simp [byN,h]),rfl⟩
theorem zT (b:Bool) (f:Int) (w:World):Calls prog 242 #[.bool b,iv f] w fun e w'=>e=.returned (iv (fl1 b f))∧w'=w:=by
 cases b
 all_goals
  go_enter func242,ntmps242;go_wp2;go_ret;exact ⟨rfl,rfl⟩
theorem mX (w:World) (d:Rg) (a b:Option Addr) (ca cb:Nat) (ha:Came w a d.xs) (hb:Came w b d.ys) (lx:d.xs.length<=2000000) (ly:d.ys.length<=2000000) (wfd:WfR d) :
  Calls prog 137 #[.agg #[.slice a d.xs.length ca,.slice b d.ys.length cb,iv d.o,iv d.p,iv d.f,iv d.m,.bool d.s,.bool d.t]] w fun e w'=>e=.returned (.bool (rW d))∧Kept 0 0 w w':=by
 have HA:=aab ha;have HB:=aab hb;have HK:=aab (kept_alloc w (.cells #[.slice a d.xs.length ca,.slice b d.ys.length cb,iv d.o,iv d.p,iv d.f,iv d.m,.bool d.s,.bool d.t] 35));clear ha hb;have G:Hid (rW d=((d.xs.all aJ&&decide ((d.xs.length:Int)=4))&&((d.ys.all aJ&&decide ((d.ys.length:Int)=4))&&(aJ d.o&&(aJ d.p&&(within d.f 0 31&&(decide (0<=d.m)&&decide (d.m<=7)))))))):=aab rfl;cases l1:((d.xs.length:Int)==4)
 ·have q1:decide ((d.xs.length:Int)=4)=false:=by simpa using l1
  go_enter func137,ntmps137;go_wp2;go_ret;exact ⟨rB (by rw [G.o,q1];simp),HK.o⟩
 ·have q1:decide ((d.xs.length:Int)=4)=true:=by simpa using l1
  cases h2:d.xs.all aJ
  ·have qh2:True:=trivial;go_enter func137,ntmps137;go_wp2_with (first|(go_at_call 190;refine st (dY _ a ca d.xs (HA.o.ai HK.o) lx) ?_;rw [h2];have Z1:True:=trivial));go_ret;exact ⟨rB (by rw [G.o,q1,h2];simp),HK.o⟩
  ·have qh2:True:=trivial;cases l3:((d.ys.length:Int)==4)
   ·have q3:decide ((d.ys.length:Int)=4)=false:=by simpa using l3
    go_enter func137,ntmps137;go_wp2_with (first|(go_at_call 190;refine st (dY _ a ca d.xs (HA.o.ai HK.o) lx) ?_;rw [h2];have Z1:True:=trivial));go_ret;exact ⟨rB (by rw [G.o,q1,h2,q3];simp),HK.o⟩
   ·have q3:decide ((d.ys.length:Int)=4)=true:=by simpa using l3
    cases h4:d.ys.all aJ
    ·have qh4:True:=trivial;go_enter func137,ntmps137;go_wp2_with (first|(go_at_call 190;have z:=Z1;refine st (dY _ b cb d.ys (HB.o.ai HK.o) ly) ?_;rw [h4])|(go_at_call 190;refine st (dY _ a ca d.xs (HA.o.ai HK.o) lx) ?_;rw [h2];have Z1:True:=trivial));go_ret;exact ⟨rB (by rw [G.o,q1,h2,q3,h4];simp),HK.o⟩
    ·have qh4:True:=trivial;cases h5:aJ d.o
     ·have qh5:True:=trivial;go_enter func137,ntmps137;go_wp2_with (first|(go_at_call 190;have z:=Z1;refine st (dY _ b cb d.ys (HB.o.ai HK.o) ly) ?_;rw [h4])|(go_at_call 190;refine st (dY _ a ca d.xs (HA.o.ai HK.o) lx) ?_;rw [h2];have Z1:True:=trivial)|(go_at_call 64;refine st (isWord d.o _ (wfB wfd.o).1 (wfB wfd.o).2) ?_;rw [h5];have Z3:True:=trivial));go_ret;exact ⟨rB (by rw [G.o,q1,h2,q3,h4,h5];simp),HK.o⟩
     ·have qh5:True:=trivial;cases h6:aJ d.p
      ·have qh6:True:=trivial;go_enter func137,ntmps137;go_wp2_with (first|(go_at_call 190;have z:=Z1;refine st (dY _ b cb d.ys (HB.o.ai HK.o) ly) ?_;rw [h4])|(go_at_call 190;refine st (dY _ a ca d.xs (HA.o.ai HK.o) lx) ?_;rw [h2];have Z1:True:=trivial)|(go_at_call 64;have z:=Z3;refine st (isWord d.p _ (wfB wfd.p).1 (wfB wfd.p).2) ?_;rw [h6])|(go_at_call 64;refine st (isWord d.o _ (wfB wfd.o).1 (wfB wfd.o).2) ?_;rw [h5];have Z3:True:=trivial));go_ret;exact ⟨rB (by rw [G.o,q1,h2,q3,h4,h5,h6];simp),HK.o⟩
      ·have qh6:True:=trivial;cases h7:within d.f 0 31
       ·have qh7:True:=trivial;go_enter func137,ntmps137;go_wp2_with (first|(go_at_call 190;have z:=Z1;refine st (dY _ b cb d.ys (HB.o.ai HK.o) ly) ?_;rw [h4])|(go_at_call 190;refine st (dY _ a ca d.xs (HA.o.ai HK.o) lx) ?_;rw [h2];have Z1:True:=trivial)|(go_at_call 64;have z:=Z3;refine st (isWord d.p _ (wfB wfd.p).1 (wfB wfd.p).2) ?_;rw [h6])|(go_at_call 64;refine st (isWord d.o _ (wfB wfd.o).1 (wfB wfd.o).2) ?_;rw [h5];have Z3:True:=trivial)|(go_at_call 191;refine st (qY d.f _) ?_;rw [h7]));go_ret;exact ⟨rB (by rw [G.o,q1,h2,q3,h4,h5,h6,h7];simp),HK.o⟩
       ·have qh7:True:=trivial;cases h8:decide (0<=d.m)
        ·have qh8:True:=trivial;go_enter func137,ntmps137;go_wp2_with (first|(go_at_call 190;have z:=Z1;refine st (dY _ b cb d.ys (HB.o.ai HK.o) ly) ?_;rw [h4])|(go_at_call 190;refine st (dY _ a ca d.xs (HA.o.ai HK.o) lx) ?_;rw [h2];have Z1:True:=trivial)|(go_at_call 64;have z:=Z3;refine st (isWord d.p _ (wfB wfd.p).1 (wfB wfd.p).2) ?_;rw [h6])|(go_at_call 64;refine st (isWord d.o _ (wfB wfd.o).1 (wfB wfd.o).2) ?_;rw [h5];have Z3:True:=trivial)|(go_at_call 191;refine st (qY d.f _) ?_;rw [h7]));go_ret;exact ⟨rB (by rw [G.o,q1,h2,q3,h4,h5,h6,h7,h8];simp),HK.o⟩
        ·have qh8:True:=trivial;cases h9:decide (d.m<=7)
         ·have qh9:True:=trivial;go_enter func137,ntmps137;go_wp2_with (first|(go_at_call 190;have z:=Z1;refine st (dY _ b cb d.ys (HB.o.ai HK.o) ly) ?_;rw [h4])|(go_at_call 190;refine st (dY _ a ca d.xs (HA.o.ai HK.o) lx) ?_;rw [h2];have Z1:True:=trivial)|(go_at_call 64;have z:=Z3;refine st (isWord d.p _ (wfB wfd.p).1 (wfB wfd.p).2) ?_;rw [h6])|(go_at_call 64;refine st (isWord d.o _ (wfB wfd.o).1 (wfB wfd.o).2) ?_;rw [h5];have Z3:True:=trivial)|(go_at_call 191;refine st (qY d.f _) ?_;rw [h7]));go_ret;exact ⟨rB (by rw [G.o,q1,h2,q3,h4,h5,h6,h7,h8,h9];simp),HK.o⟩
         ·have qh9:True:=trivial;go_enter func137,ntmps137;go_wp2_with (first|(go_at_call 190;have z:=Z1;refine st (dY _ b cb d.ys (HB.o.ai HK.o) ly) ?_;rw [h4])|(go_at_call 190;refine st (dY _ a ca d.xs (HA.o.ai HK.o) lx) ?_;rw [h2];have Z1:True:=trivial)|(go_at_call 64;have z:=Z3;refine st (isWord d.p _ (wfB wfd.p).1 (wfB wfd.p).2) ?_;rw [h6])|(go_at_call 64;refine st (isWord d.o _ (wfB wfd.o).1 (wfB wfd.o).2) ?_;rw [h5];have Z3:True:=trivial)|(go_at_call 191;refine st (qY d.f _) ?_;rw [h7]));go_ret;exact ⟨rB (by rw [G.o,q1,h2,q3,h4,h5,h6,h7,h8,h9];simp),HK.o⟩
def bkR (r:Rg):Array Value:=#[iv (el r.xs 0),iv (el r.xs 1),iv (el r.xs 2),iv (el r.xs 3),iv (el r.ys 0),iv (el r.ys 1),iv (el r.ys 2),iv (el r.ys 3),iv r.o,iv r.p,iv r.f,iv r.m,.bool r.s,.bool r.t]
theorem QJ (r:Rg):(bkR r).all (·.oneCell')=true:=by simp [bkR,Value.oneCell']
theorem wC (r:Rg):(prog.info? 151).map (·.size)=some (bkR r).size:=by
 have:(prog.info? 151).map (·.size)=some 14:=by kernel_rfl
 exact this
theorem list4 {xs:List Int} (h:xs.length=4):xs=[el xs 0,el xs 1,el xs 2,el xs 3]:=by
 match xs,h with
 | [a,b,c,d],_=>rfl
theorem mk4 (w:World):(Instr.makeSlice 22 (iv 4) (iv 4)).run prog w=.ok (.slice (some (aac w.heap.size 0)) 4 4) (w.alloc (.cells #[iv 0,iv 0,iv 0,iv 0] 3)):=by kernel_rfl
theorem OZ (x0 x1 x2 x3:Int) (w:World) :
  Calls prog 180 #[.agg #[iv x0,iv x1,iv x2,iv x3]] w fun e w'=>e=.returned (.slice (some (aac (w.heap.size+1) 0)) 4 4)∧Blk w' (w.heap.size+1) (cellsOf [x0,x1,x2,x3]) 3∧Kept 0 0 w w':=by
 have B0:Blk ((w.alloc (.cells #[iv x0,iv x1,iv x2,iv x3] 149)).alloc (.cells #[iv 0,iv 0,iv 0,iv 0] 3)) w.heap.size (cellsOf [x0,x1,x2,x3]) 149:=(Blk.new w #[iv x0,iv x1,iv x2,iv x3] 149).alloc _;have B1:=Blk.new (w.alloc (.cells #[iv x0,iv x1,iv x2,iv x3] 149)) #[iv 0,iv 0,iv 0,iv 0] 3;simp only [World.size_alloc] at B1;obtain ⟨W1,hcopy,C1,k1⟩:=yC _ (w.heap.size+1) 0 4 4 4 (some (aac w.heap.size 0)) [x0,x1,x2,x3] [iv 0,iv 0,iv 0,iv 0] 3 B1 (iC B0).row (by simp) (by simp);have hc:(Builtin.copy_ #[22,22] 3 #[.slice (some (aac (w.heap.size+1) 0)) 4 4,.slice (some (aac w.heap.size 0)) 4 4]).run prog ((w.alloc (.cells #[iv x0,iv x1,iv x2,iv x3] 149)).alloc (.cells #[iv 0,iv 0,iv 0,iv 0] 3))=.ok (iv 4) W1:=hcopy;have C:=aab (show Blk W1 (w.heap.size+1) (cellsOf [x0,x1,x2,x3]) 3 from C1);have K:=aab (aH (ag (kept_alloc w _) _) k1 (by omega));clear B0 B1 hcopy C1 k1;have mk:=mk4;go_enter func180,ntmps180;go_wp2;go_ret;exact ⟨rfl,C.o,K.o⟩
theorem Vb (w:World) (d:Rg) (a b:Option Addr) (ca cb:Nat) (ha:aB w a d.xs) (hb:aB w b d.ys) (lx:d.xs.length=4) (ly:d.ys.length=4) :
  Calls prog 121 #[.agg #[.slice a d.xs.length ca,.slice b d.ys.length cb,iv d.o,iv d.p,iv d.f,iv d.m,.bool d.s,.bool d.t]] w fun e w'=>e=.returned (.agg (bkR d))∧Kept 0 0 w w':=by
 rw [lx,ly];obtain ⟨W0,h0⟩:∃W:World,W=((w.alloc (.cells #[.slice a 4 ca,.slice b 4 cb,iv d.o,iv d.p,iv d.f,iv d.m,.bool d.s,.bool d.t] 35)).alloc (.cells #[iv 0,iv 0,iv 0,iv 0,iv 0,iv 0,iv 0,iv 0,iv 0,iv 0,iv 0,iv 0,.bool false,.bool false] 151)).alloc (.cells #[iv 0,iv 0,iv 0,iv 0,iv 0,iv 0,iv 0,iv 0,iv d.o,iv d.p,iv d.f,iv d.m,.bool d.s,.bool d.t] 151):=⟨_,rfl⟩
 have R0:Blk W0 w.heap.size #[.slice a 4 ca,.slice b 4 cb,iv d.o,iv d.p,iv d.f,iv d.m,.bool d.s,.bool d.t] 35:=by rw [h0];exact ((Blk.new w _ _).alloc _).alloc _
 have Z0:Blk W0 (w.heap.size+1) #[iv 0,iv 0,iv 0,iv 0,iv 0,iv 0,iv 0,iv 0,iv 0,iv 0,iv 0,iv 0,.bool false,.bool false] 151:=by
  rw [h0];have:=Blk.new (w.alloc (.cells #[.slice a 4 ca,.slice b 4 cb,iv d.o,iv d.p,iv d.f,iv d.m,.bool d.s,.bool d.t] 35)) #[iv 0,iv 0,iv 0,iv 0,iv 0,iv 0,iv 0,iv 0,iv 0,iv 0,iv 0,iv 0,.bool false,.bool false] 151;simp only [World.size_alloc] at this;exact this.alloc _
 have B0:Blk W0.drew (w.heap.size+1+1) #[iv 0,iv 0,iv 0,iv 0,iv 0,iv 0,iv 0,iv 0,iv d.o,iv d.p,iv d.f,iv d.m,.bool d.s,.bool d.t] 151:=by
  rw [h0];have:=Blk.new ((w.alloc (.cells #[.slice a 4 ca,.slice b 4 cb,iv d.o,iv d.p,iv d.f,iv d.m,.bool d.s,.bool d.t] 35)).alloc (.cells #[iv 0,iv 0,iv 0,iv 0,iv 0,iv 0,iv 0,iv 0,iv 0,iv 0,iv 0,iv 0,.bool false,.bool false] 151)) #[iv 0,iv 0,iv 0,iv 0,iv 0,iv 0,iv 0,iv 0,iv d.o,iv d.p,iv d.f,iv d.m,.bool d.s,.bool d.t] 151;simp only [World.size_alloc] at this;exact this
 have K0:Kept 0 0 w W0.drew:=by rw [h0];exact ah (ag (ag (kept_alloc w _) _) _)
 have r00:=R0.cell (i:=0) rfl;have r01:=R0.cell (i:=1) rfl;obtain ⟨W1,hc1,B1,k1⟩:=yC W0.drew (w.heap.size+1+1) 0 4 4 ca a d.xs _ _ B0 (ha.ai K0) (by omega) (by rw [lx];simp);have K1:Kept 0 0 w W1.drew:=ah (aH K0 k1 (by omega));have R1:Blk W1 w.heap.size #[.slice a 4 ca,.slice b 4 cb,iv d.o,iv d.p,iv d.f,iv d.m,.bool d.s,.bool d.t] 35:=Blk.kept (show Blk W0.drew _ _ _ from R0) k1 (by omega);have r11:=R1.cell (i:=1) rfl;obtain ⟨W2,hc2,B2,k2⟩:=yC W1.drew (w.heap.size+1+1) 4 4 4 cb b d.ys _ _ (show Blk W1.drew _ _ _ from B1) (hb.ai K1) (by omega) (by rw [ly,length_splice _ _ _ (by simp [lx])];simp);have Z1:=Blk.kept (show Blk W0.drew _ _ _ from Z0) k1 (by omega);have Z2:=aab (Blk.kept (show Blk W1.drew _ _ _ from Z1) k2 (by omega));have K2:=aab (aH K1 k2 (by omega));rw [lx] at hc1;rw [ly] at hc2
 have D2:Hid (Blk W2 (w.heap.size+1+1) (bkR d) 151):=aab (by
  rw [list4 lx,list4 ly] at B2
  exact B2)
 clear B0 B1 B2 k1 k2 K0 K1 R0 Z0 R1 Z1;go_enter func121,ntmps121;go_wp2_with fail;rw [<-h0];clear h0;go_region;go_wp2_with fail;go_region;go_wp2_with (first|(refine wpList_load_row rfl 151 (.tmp 3) rfl (w.heap.size+1+1) rfl 151 (bkR d) (0,0) _ D2.o underlying151 rfl (wC d) ?_)|(refine wpList_store_row rfl 151 (.tmp 2) (.tmp 27) rfl (w.heap.size+1) (bkR d) rfl rfl 151 _ Z2.o (wC d) rfl (QJ d) ?_));refine bodyPost_ret (v:=.agg (bkR d)) ?_ rfl ⟨rfl,lC K2.o _ _ (by omega)⟩;exact results_cell_row rfl _ _ _ _ _ (0,0) _ rfl Z2.o.setRow underlying151 rfl (wC d)
theorem bkX {r:Rg} (h:r.xs.length=4) {k:Nat} (hk:k<4) (z:Int):bkR {r with xs:=r.xs.set k z}=(bkR r).setIfInBounds k (iv z):=by
 obtain ⟨xs,ys,o,p,f,m,s,t⟩:=r
 match xs,h with
 | [a,b,c,d],_=>
  have:k=0∨k=1∨k=2∨k=3:=by omega
  rcases this with rfl|rfl|rfl|rfl<;>rfl
theorem bkY {r:Rg} (h:r.ys.length=4) {k:Nat} (hk:k<4) (z:Int):bkR {r with ys:=r.ys.set k z}=(bkR r).setIfInBounds (4+k) (iv z):=by
 obtain ⟨xs,ys,o,p,f,m,s,t⟩:=r
 match ys,h with
 | [a,b,c,d],_=>
  have:k=0∨k=1∨k=2∨k=3:=by omega
  rcases this with rfl|rfl|rfl|rfl<;>rfl
theorem QM (x:Nat):x &&& 18446744073709551360=x/256%72057594037927936*256:=by
 apply Nat.eq_of_testBit_eq;intro i;rw [Nat.testBit_and,show (18446744073709551360:Nat)=(2^56-1)*2^8 from by decide,Nat.testBit_mul_two_pow,Nat.testBit_two_pow_sub_one,show x/256%72057594037927936*256=x/2^8%2^56*2^8 from rfl,Nat.testBit_mul_two_pow,Nat.testBit_mod_two_pow,Nat.testBit_div_two_pow];by_cases h:8<=i
 ·have e:i-8+8=i:=by omega
  simp [h,e,Bool.and_comm]
 ·simp [h]
theorem GI {x:Int} (h0:0<=x) (h1:x<=65535):bits .andNot .i64 x 255=x/256*256:=by
 show IntKind.i64.wrap ((BitVec.ofInt 64 x &&& ~~~ BitVec.ofInt 64 255).toNat:Int)=_
 rw [BitVec.toNat_and,BitVec.toNat_ofInt,show (~~~ BitVec.ofInt 64 255).toNat=18446744073709551360 from by decide,QM,IntKind.wrap_i64];omega
theorem Tm (x y:Int):bits .or .i64 x y=bits .or .i64 y x:=by
 show IntKind.i64.wrap ((BitVec.ofInt 64 x ||| BitVec.ofInt 64 y).toNat:Int)=IntKind.i64.wrap ((BitVec.ofInt 64 y ||| BitVec.ofInt 64 x).toNat:Int)
 rw [BitVec.or_comm]
theorem Aq {x v:Int} (h0:0<=x) (h1:x<=65535) (v0:0<=v) (v1:v<=255):bits .or .i64 v (bits .andNot .i64 x 255)=x/256*256+v:=by
 rw [GI h0 h1,Tm];exact bits_join .i64 62 (by decide) Pl.gY 8 (x/256*256) v (by omega) (by omega) (by omega) (by omega) (by omega) (by omega)
structure Tl where
 c:Array Value
 y:TypeId
structure Hl where
 a:Bool
 t:Tl
abbrev tl0:Tl:=⟨#[],159⟩
def cor (r:Rg) (xs:List Int) (u:Value) (st:Bool) (ha:Hl):Array Value:=bkR r++(cellsOf xs++(#[u,.bool st,.bool ha.a]++ha.t.c))
theorem set_left {A B:Array Value} {i:Nat} (h:i<A.size) (v:Value):(A++B).setIfInBounds i v=A.setIfInBounds i v++B:=by
 apply Array.ext_getElem?;intro j;simp only [Array.getElem?_setIfInBounds,Array.getElem?_append,Array.size_append,Array.size_setIfInBounds];by_cases e:i=j
 ·subst e;simp [h];omega
 ·simp [e]
theorem set_right {A B:Array Value} (i:Nat) (v:Value):(A++B).setIfInBounds (A.size+i) v=A++B.setIfInBounds i v:=by
 apply Array.ext_getElem?;intro j;simp only [Array.getElem?_setIfInBounds,Array.getElem?_append,Array.size_append];by_cases e:A.size+i=j
 ·subst e;simp;omega
 ·by_cases h:j<A.size
  ·simp [e,h]
  ·simp [e,h,show ¬i=j-A.size by omega]
theorem Since.mine {w a b:World} {lo hi x y g g':Nat} (h:Since w lo hi g a g') (k:Kept x y a b) (hx:w.heap.size<=x):Since w lo hi g b g':=
 ⟨h.1,⟨k.os.trans h.2.os,k.tape.trans h.2.tape,k.output.trans h.2.output,Nat.le_trans h.2.size k.size,fun i hi' hn=>(k.block i (Nat.lt_of_lt_of_le hi' h.2.size) (by omega)).trans (h.2.block i hi' hn)⟩⟩
section
variable {r:Rg} {xs:List Int} {u:Value} {st:Bool} {ha:Hl}
theorem Af {x:Bool} (hl:xs.length=512):(cor r xs u st ⟨x,tl0⟩).size=529:=by
 have:(bkR r).size=14:=rfl
 simp [cor,this,cellsOf_size,hl]
theorem yB {i:Nat} (h:i<14):(cor r xs u st ha)[i]? = (bkR r)[i]? := Array.getElem?_append_left h
theorem LJ (i:Nat):(cor r xs u st ha)[14+i]? = (cellsOf xs++(#[u,.bool st,.bool ha.a]++ha.t.c))[i]? := by
 have:=Array.getElem?_append_right (xs:=bkR r) (ys:=cellsOf xs++(#[u,.bool st,.bool ha.a]++ha.t.c)) (i:=14+i) (Nat.le_add_right 14 i)
 rw [show 14+i-(bkR r).size=i from Nat.add_sub_cancel_left 14 i] at this;exact this
theorem vY {i:Nat} (hi:i<xs.length):(cor r xs u st ha)[14+i]? = some (iv (el xs i)):=by
 rw [LJ,Array.getElem?_append_left (by rw [cellsOf_size];exact hi)];simp [cellsOf,el,hi]
theorem Cm (hl:xs.length=512) (i:Nat):(cor r xs u st ha)[14+(512+i)]? = ((#[u,.bool st,.bool ha.a]++ha.t.c:Array Value))[i]? := by
 rw [LJ,Array.getElem?_append_right (by rw [cellsOf_size,hl];omega),cellsOf_size,hl,Nat.add_sub_cancel_left]
theorem kH (hl:xs.length=512):(cor r xs u st ha)[526]? = some u:=(Cm hl 0).trans (Array.getElem?_append_left (by simp))
theorem Lr (hl:xs.length=512):(cor r xs u st ha)[527]? = some (.bool st):=(Cm hl 1).trans (Array.getElem?_append_left (by simp))
theorem LK (hl:xs.length=512):(cor r xs u st ha)[528]? = some (.bool ha.a):=(Cm hl 2).trans (Array.getElem?_append_left (by simp))
theorem Gp {i:Nat} (v:Int):(cellsOf xs).setIfInBounds i (iv v)=cellsOf (xs.set i v):=by
 simp [cellsOf,List.map_set]
theorem LG {i:Nat} {z:Int} (hi:i<xs.length):(cor r xs u st ha).setIfInBounds (14+i) (iv z)=cor r (xs.set i z) u st ha:=by
 show (bkR r++_).setIfInBounds ((bkR r).size+i) _=_
 rw [set_right,set_left (by rw [cellsOf_size];exact hi),Gp];rfl
theorem Lt (hl:xs.length=512) (u':Value):(cor r xs u st ha).setIfInBounds 526 u'=cor r xs u' st ha:=by
 show (bkR r++_).setIfInBounds ((bkR r).size+512) _=_
 have e:=set_right (A:=cellsOf xs) (B:=(#[u,.bool st,.bool ha.a]++ha.t.c)) 0 u';rw [cellsOf_size,hl] at e;rw [set_right,show (512:Nat)=512+0 from rfl,e,set_left (by simp)];rfl
theorem Lu (hl:xs.length=512) (s':Bool):(cor r xs u st ha).setIfInBounds 527 (.bool s')=cor r xs u s' ha:=by
 show (bkR r++_).setIfInBounds ((bkR r).size+513) _=_
 have e:=set_right (A:=cellsOf xs) (B:=(#[u,.bool st,.bool ha.a]++ha.t.c)) 1 (.bool s');rw [cellsOf_size,hl] at e;rw [set_right,show (513:Nat)=512+1 from rfl,e,set_left (by simp)];rfl
theorem LC {r':Rg} {i:Nat} {v:Value} (hi:i<14) (h:bkR r'=(bkR r).setIfInBounds i v):(cor r xs u st ha).setIfInBounds i v=cor r' xs u st ha:=by
 show (bkR r++_).setIfInBounds i v=_
 rw [set_left hi,<-h];rfl
end
theorem RN {r:Rg} {k:Nat} (hk:k<4):(bkR r)[k]? = some (iv (el r.xs k))∧(bkR r)[4+k]? = some (iv (el r.ys k)):=by
 have:k=0∨k=1∨k=2∨k=3:=by omega
 rcases this with rfl|rfl|rfl|rfl<;>exact ⟨rfl,rfl⟩
def CBk (w:World) (b g cu:Nat) (c:Mc) (h:Hl):Prop:=Blk w b (cor c.r c.bx (.slice (some (aac g 0)) c.bm cu) c.st h) h.t.y
structure CLg (w:World) (lo b g cu:Nat) (bl:List Int) (bm:Nat):Prop where
 l:w.ownsRow lo 179 5 (.slice (some (aac g 0)) bm cu) bm (bl.map (Value.int .i64))
 lo':lo<=b
 ne:b≠g
def CAt (w:World) (lo b g:Nat) (c:Mc) (h:Hl):Prop:=∃cu:Nat,CBk w b g cu c h∧CLg w lo b g cu c.bl c.bm
section
variable {w w':World} {lo b g cu:Nat} {c:Mc} {h:Hl} {bl:List Int} {bm:Nat}
theorem CLg.own (o:CLg w lo b g cu bl bm) (k:Kept b (b+1) w w'):CLg w' lo b g cu bl bm:=⟨bH o.l k (by have:=o.ne;omega),o.lo',o.ne⟩
theorem CLg.any (o:CLg w lo b g cu bl bm) (k:Kept 0 0 w w'):CLg w' lo b g cu bl bm:=⟨bH o.l k (by omega),o.lo',o.ne⟩
theorem CLg.lt (o:CLg w lo b g cu bl bm):lo<=g∧g<w.heap.size:=o.l.lt g rfl
theorem CAt.lt (a:CAt w lo b g c h):lo<=b∧b<w.heap.size∧lo<=g∧g<w.heap.size∧b≠g:=by
 obtain ⟨cu,hB,hO⟩:=a;have:=hO.lt;exact ⟨hO.lo',Blk.lt hB,this.1,this.2,hO.ne⟩
theorem CAt.any (a:CAt w lo b g c h) (k:Kept 0 0 w w'):CAt w' lo b g c h:=by
 obtain ⟨cu,hB,hO⟩:=a;exact ⟨cu,Blk.ae hB k,hO.any k⟩
theorem CAt.alloc (a:CAt w lo b g c h) (o:Obj):CAt (w.alloc o) lo b g c h:=a.any (kept_alloc w o)
theorem CAt.drew (a:CAt w lo b g c h):CAt w.drew lo b g c h:=a.any (ah (Kept.refl _ _ _))
theorem CAt.other (a:CAt w lo b g c h) (q i:Nat) (v:Value) (h1:q≠b) (h2:q≠g):CAt (w.setCell ⟨q,i,none⟩ v) lo b g c h:=by
 obtain ⟨cu,hB,hO⟩:=a;have k:=af (Kept.refl q (q+1) w) q i v (.inl (by omega));exact ⟨cu,Blk.kept hB k (by omega),⟨bH hO.l k (by omega),hO.lo',hO.ne⟩⟩
theorem CAt.kept {x y:Nat} (a:CAt w lo b g c h) (k:Kept x y w w') (h1:¬(x<=b∧b<y)) (h2:¬(x<=g∧g<y)):CAt w' lo b g c h:=by
 obtain ⟨cu,hB,hO⟩:=a;exact ⟨cu,Blk.kept hB k h1,⟨bH hO.l k h2,hO.lo',hO.ne⟩⟩
theorem CAt.reg {r':Rg} (a:CAt w lo b g c h) {i:Nat} {v:Value} (hi:i<14) (e:bkR r'=(bkR c.r).setIfInBounds i v):CAt (w.setCell ⟨b,i,none⟩ v) lo b g (c.bi r') h:=by
 obtain ⟨cu,hB,hO⟩:=a;refine ⟨cu,?_,hO.own (ak w b i v)⟩;have:=Blk.set hB i v;rw [LC hi e] at this;exact this
theorem CAt.yS (a:CAt w lo b g c h) (l4:c.r.xs.length=4) {k:Nat} (hk:k<4) (v:Int):CAt (w.setCell ⟨b,k,none⟩ (iv v)) lo b g (c.bi {c.r with xs:=c.r.xs.set k v}) h:=a.reg (by omega) (bkX l4 hk v)
theorem CAt.uZ (a:CAt w lo b g c h) (l4:c.r.ys.length=4) {k:Nat} (hk:k<4) (v:Int):CAt (w.setCell ⟨b,4+k,none⟩ (iv v)) lo b g (c.fB k v) h:=a.reg (r':={c.r with ys:=c.r.ys.set k v}) (by omega) (bkY l4 hk v)
theorem CAt.aF (a:CAt w lo b g c h) (v:Int):CAt (w.setCell (aac b 9) (iv v)) lo b g (c.aF v) h:=a.reg (r':={c.r with p:=v}) (by omega) rfl
theorem CAt.aI (a:CAt w lo b g c h) (v:Int):CAt (w.setCell (aac b 10) (iv v)) lo b g (c.aI v) h:=a.reg (r':={c.r with f:=v}) (by omega) rfl
theorem CAt.VR (a:CAt w lo b g c h) (l:c.bx.length=512) (v:Bool):CAt (w.setCell (aac b 527) (.bool v)) lo b g {c with st:=v} h:=by
 obtain ⟨cu,hB,hO⟩:=a;refine ⟨cu,?_,hO.own (ak w b 527 (.bool v))⟩;have:=Blk.set hB 527 (.bool v);rw [Lu l] at this;exact this
theorem CAt.cX (a:CAt w lo b g c h) {k:Nat} (hk:k<4):w.cell? ⟨b,k,none⟩=some (iv (el c.r.xs k)):=by
 obtain ⟨cu,hB,hO⟩:=a;exact Blk.cell hB ((yB (by omega)).trans (RN hk).1)
theorem CAt.cY (a:CAt w lo b g c h) {k:Nat} (hk:k<4):w.cell? ⟨b,4+k,none⟩=some (iv (el c.r.ys k)):=by
 obtain ⟨cu,hB,hO⟩:=a;exact Blk.cell hB ((yB (by omega)).trans (RN hk).2)
theorem CAt.cR (a:CAt w lo b g c h) {i:Nat} {v:Value} (hi:i<14) (e:(bkR c.r)[i]? = some v):w.cell? ⟨b,i,none⟩=some v:=by
 obtain ⟨cu,hB,hO⟩:=a;exact Blk.cell hB ((yB hi).trans e)
theorem CAt.cO (a:CAt w lo b g c h):w.cell? (aac b 8)=some (iv c.r.o):=a.cR (by omega) rfl
theorem CAt.cP (a:CAt w lo b g c h):w.cell? (aac b 9)=some (iv c.r.p):=a.cR (by omega) rfl
theorem CAt.cF (a:CAt w lo b g c h):w.cell? (aac b 10)=some (iv c.r.f):=a.cR (by omega) rfl
theorem CAt.cM (a:CAt w lo b g c h):w.cell? (aac b 11)=some (iv c.r.m):=a.cR (by omega) rfl
theorem CAt.cS (a:CAt w lo b g c h):w.cell? (aac b 12)=some (.bool c.r.s):=a.cR (by omega) rfl
theorem CAt.cT (a:CAt w lo b g c h):w.cell? (aac b 13)=some (.bool c.r.t):=a.cR (by omega) rfl
theorem CAt.cSt (a:CAt w lo b g c h) (l:c.bx.length=512):w.cell? (aac b 527)=some (.bool c.st):=by
 obtain ⟨cu,hB,hO⟩:=a;exact Blk.cell hB (Lr l)
theorem CAt.cH (a:CAt w lo b g c h) (l:c.bx.length=512):w.cell? (aac b 528)=some (.bool h.a):=by
 obtain ⟨cu,hB,hO⟩:=a;exact Blk.cell hB (LK l)
theorem CAt.fz (a:CAt w lo b g c h) (i:Nat):w.frozen? ⟨b,i,none⟩=false:=by
 obtain ⟨cu,hB,hO⟩:=a;exact Blk.frozen hB i
end
theorem CAt.kS {w:World} {lo b g:Nat} {c:Mc} {h:Hl} (hC:CAt w lo b g c h) (op z r m k e s:Int):∃X:World,(w.alloc (.cells (inA op z r m k e s) 48)).alloc (.cells ftZ 42)=X∧Hid (Kept 0 0 w X)∧Hid (CAt X lo b g c h)∧Hid (Blk X w.heap.size (inA op z r m k e s) 48)∧Hid (Blk X (w.heap.size+1) ftZ 42)∧w.heap.size+1<X.heap.size:=by
 have R:=Blk.new (w.alloc (.cells (inA op z r m k e s) 48)) ftZ 42;rw [World.size_alloc] at R;exact ⟨_,rfl,aab ((kept_alloc w _).trans (kept_alloc _ _)),aab ((hC.alloc _).alloc _),aab ((Blk.new w (inA op z r m k e s) _).alloc _),aab R,R.lt⟩
theorem Blk.RP {w:World} {b:Nat} {u0 u1 u2 u3 u4 u5 u6 u7 u8 u9 u10 u11 u12 u13 v0 v1 v2 v3 v4 v5 v6 v7 v8 v9 v10 v11 v12 v13:Value} {B:Array Value} {ty:TypeId} (h:Blk w b (#[u0,u1,u2,u3,u4,u5,u6,u7,u8,u9,u10,u11,u12,u13]++B) ty):Blk ((((((((((((((w.setCell (aac b 0) (v0)).setCell (aac b 1) (v1)).setCell (aac b 2) (v2)).setCell (aac b 3) (v3)).setCell (aac b 4) (v4)).setCell (aac b 5) (v5)).setCell (aac b 6) (v6)).setCell (aac b 7) (v7)).setCell (aac b 8) (v8)).setCell (aac b 9) (v9)).setCell (aac b 10) (v10)).setCell (aac b 11) (v11)).setCell (aac b 12) (v12)).setCell (aac b 13) (v13)) b (#[v0,v1,v2,v3,v4,v5,v6,v7,v8,v9,v10,v11,v12,v13]++B) ty:=by
 have h0:Blk (w.setCell (aac b 0) v0) b (#[v0,u1,u2,u3,u4,u5,u6,u7,u8,u9,u10,u11,u12,u13]++B) ty:=by have q:=Blk.set h 0 v0;rw [set_left (by simp)] at q;exact q
 have h1:Blk ((w.setCell (aac b 0) v0).setCell (aac b 1) v1) b (#[v0,v1,u2,u3,u4,u5,u6,u7,u8,u9,u10,u11,u12,u13]++B) ty:=by have q:=Blk.set h0 1 v1;rw [set_left (by simp)] at q;exact q
 have h2:Blk (((w.setCell (aac b 0) v0).setCell (aac b 1) v1).setCell (aac b 2) v2) b (#[v0,v1,v2,u3,u4,u5,u6,u7,u8,u9,u10,u11,u12,u13]++B) ty:=by have q:=Blk.set h1 2 v2;rw [set_left (by simp)] at q;exact q
 have h3:Blk ((((w.setCell (aac b 0) v0).setCell (aac b 1) v1).setCell (aac b 2) v2).setCell (aac b 3) v3) b (#[v0,v1,v2,v3,u4,u5,u6,u7,u8,u9,u10,u11,u12,u13]++B) ty:=by have q:=Blk.set h2 3 v3;rw [set_left (by simp)] at q;exact q
 have h4:Blk (((((w.setCell (aac b 0) v0).setCell (aac b 1) v1).setCell (aac b 2) v2).setCell (aac b 3) v3).setCell (aac b 4) v4) b (#[v0,v1,v2,v3,v4,u5,u6,u7,u8,u9,u10,u11,u12,u13]++B) ty:=by have q:=Blk.set h3 4 v4;rw [set_left (by simp)] at q;exact q
 have h5:Blk ((((((w.setCell (aac b 0) v0).setCell (aac b 1) v1).setCell (aac b 2) v2).setCell (aac b 3) v3).setCell (aac b 4) v4).setCell (aac b 5) v5) b (#[v0,v1,v2,v3,v4,v5,u6,u7,u8,u9,u10,u11,u12,u13]++B) ty:=by have q:=Blk.set h4 5 v5;rw [set_left (by simp)] at q;exact q
 have h6:Blk (((((((w.setCell (aac b 0) v0).setCell (aac b 1) v1).setCell (aac b 2) v2).setCell (aac b 3) v3).setCell (aac b 4) v4).setCell (aac b 5) v5).setCell (aac b 6) v6) b (#[v0,v1,v2,v3,v4,v5,v6,u7,u8,u9,u10,u11,u12,u13]++B) ty:=by have q:=Blk.set h5 6 v6;rw [set_left (by simp)] at q;exact q
 have h7:Blk ((((((((w.setCell (aac b 0) v0).setCell (aac b 1) v1).setCell (aac b 2) v2).setCell (aac b 3) v3).setCell (aac b 4) v4).setCell (aac b 5) v5).setCell (aac b 6) v6).setCell (aac b 7) v7) b (#[v0,v1,v2,v3,v4,v5,v6,v7,u8,u9,u10,u11,u12,u13]++B) ty:=by have q:=Blk.set h6 7 v7;rw [set_left (by simp)] at q;exact q
 have h8:Blk (((((((((w.setCell (aac b 0) v0).setCell (aac b 1) v1).setCell (aac b 2) v2).setCell (aac b 3) v3).setCell (aac b 4) v4).setCell (aac b 5) v5).setCell (aac b 6) v6).setCell (aac b 7) v7).setCell (aac b 8) v8) b (#[v0,v1,v2,v3,v4,v5,v6,v7,v8,u9,u10,u11,u12,u13]++B) ty:=by have q:=Blk.set h7 8 v8;rw [set_left (by simp)] at q;exact q
 have h9:Blk ((((((((((w.setCell (aac b 0) v0).setCell (aac b 1) v1).setCell (aac b 2) v2).setCell (aac b 3) v3).setCell (aac b 4) v4).setCell (aac b 5) v5).setCell (aac b 6) v6).setCell (aac b 7) v7).setCell (aac b 8) v8).setCell (aac b 9) v9) b (#[v0,v1,v2,v3,v4,v5,v6,v7,v8,v9,u10,u11,u12,u13]++B) ty:=by have q:=Blk.set h8 9 v9;rw [set_left (by simp)] at q;exact q
 have h10:Blk (((((((((((w.setCell (aac b 0) v0).setCell (aac b 1) v1).setCell (aac b 2) v2).setCell (aac b 3) v3).setCell (aac b 4) v4).setCell (aac b 5) v5).setCell (aac b 6) v6).setCell (aac b 7) v7).setCell (aac b 8) v8).setCell (aac b 9) v9).setCell (aac b 10) v10) b (#[v0,v1,v2,v3,v4,v5,v6,v7,v8,v9,v10,u11,u12,u13]++B) ty:=by have q:=Blk.set h9 10 v10;rw [set_left (by simp)] at q;exact q
 have h11:Blk ((((((((((((w.setCell (aac b 0) v0).setCell (aac b 1) v1).setCell (aac b 2) v2).setCell (aac b 3) v3).setCell (aac b 4) v4).setCell (aac b 5) v5).setCell (aac b 6) v6).setCell (aac b 7) v7).setCell (aac b 8) v8).setCell (aac b 9) v9).setCell (aac b 10) v10).setCell (aac b 11) v11) b (#[v0,v1,v2,v3,v4,v5,v6,v7,v8,v9,v10,v11,u12,u13]++B) ty:=by have q:=Blk.set h10 11 v11;rw [set_left (by simp)] at q;exact q
 have h12:Blk (((((((((((((w.setCell (aac b 0) v0).setCell (aac b 1) v1).setCell (aac b 2) v2).setCell (aac b 3) v3).setCell (aac b 4) v4).setCell (aac b 5) v5).setCell (aac b 6) v6).setCell (aac b 7) v7).setCell (aac b 8) v8).setCell (aac b 9) v9).setCell (aac b 10) v10).setCell (aac b 11) v11).setCell (aac b 12) v12) b (#[v0,v1,v2,v3,v4,v5,v6,v7,v8,v9,v10,v11,v12,u13]++B) ty:=by have q:=Blk.set h11 12 v12;rw [set_left (by simp)] at q;exact q
 have h13:Blk ((((((((((((((w.setCell (aac b 0) v0).setCell (aac b 1) v1).setCell (aac b 2) v2).setCell (aac b 3) v3).setCell (aac b 4) v4).setCell (aac b 5) v5).setCell (aac b 6) v6).setCell (aac b 7) v7).setCell (aac b 8) v8).setCell (aac b 9) v9).setCell (aac b 10) v10).setCell (aac b 11) v11).setCell (aac b 12) v12).setCell (aac b 13) v13) b (#[v0,v1,v2,v3,v4,v5,v6,v7,v8,v9,v10,v11,v12,v13]++B) ty:=by have q:=Blk.set h12 13 v13;rw [set_left (by simp)] at q;exact q
 exact h13
theorem Blk.Ny {w:World} {b:Nat} {u0 u1 u2 u3 u4 u5 u6 u7 u8 u9 u10 u11 u12 u13 v0 v1 v2 v3 v4 v5 v6 v7 v8 v9 v10 v11 v12 v13:Value} {ty:TypeId} (h:Blk w b #[u0,u1,u2,u3,u4,u5,u6,u7,u8,u9,u10,u11,u12,u13] ty):Blk ((((((((((((((w.setCell (aac b 0) (v0)).setCell (aac b 1) (v1)).setCell (aac b 2) (v2)).setCell (aac b 3) (v3)).setCell (aac b 4) (v4)).setCell (aac b 5) (v5)).setCell (aac b 6) (v6)).setCell (aac b 7) (v7)).setCell (aac b 8) (v8)).setCell (aac b 9) (v9)).setCell (aac b 10) (v10)).setCell (aac b 11) (v11)).setCell (aac b 12) (v12)).setCell (aac b 13) (v13)) b #[v0,v1,v2,v3,v4,v5,v6,v7,v8,v9,v10,v11,v12,v13] ty:=by
 have q:=Blk.RP (u0:=u0) (u1:=u1) (u2:=u2) (u3:=u3) (u4:=u4) (u5:=u5) (u6:=u6) (u7:=u7) (u8:=u8) (u9:=u9) (u10:=u10) (u11:=u11) (u12:=u12) (u13:=u13) (v0:=v0) (v1:=v1) (v2:=v2) (v3:=v3) (v4:=v4) (v5:=v5) (v6:=v6) (v7:=v7) (v8:=v8) (v9:=v9) (v10:=v10) (v11:=v11) (v12:=v12) (v13:=v13) (B:=#[]) (w:=w) (b:=b) (ty:=ty) (by rw [Array.append_empty];exact h);rw [Array.append_empty] at q;exact q
theorem JZ (w:World) (b:Nat) (v0 v1 v2 v3 v4 v5 v6 v7 v8 v9 v10 v11 v12 v13:Value):Kept b (b+1) w ((((((((((((((w.setCell (aac b 0) (v0)).setCell (aac b 1) (v1)).setCell (aac b 2) (v2)).setCell (aac b 3) (v3)).setCell (aac b 4) (v4)).setCell (aac b 5) (v5)).setCell (aac b 6) (v6)).setCell (aac b 7) (v7)).setCell (aac b 8) (v8)).setCell (aac b 9) (v9)).setCell (aac b 10) (v10)).setCell (aac b 11) (v11)).setCell (aac b 12) (v12)).setCell (aac b 13) (v13)):=((((((((((((((ak w b 0 (v0)).one 1 (v1)).one 2 (v2)).one 3 (v3)).one 4 (v4)).one 5 (v5)).one 6 (v6)).one 7 (v7)).one 8 (v8)).one 9 (v9)).one 10 (v10)).one 11 (v11)).one 12 (v12)).one 13 (v13))
variable (w:World) (lo b g:Nat) (c:Mc) (h:Hl)
theorem Me (z k v:Int) (hC:CAt w lo b g c h) (hg:Pl.Good c.r) (k0:0<=k) (k3:k<=3) (hz:z=1∨z=2) (hv:okv z v=true) :
  Calls prog 252 #[.pointer (some (aac b 0)),iv z,iv k,iv v] w fun e w'=>e=.returned (.tuple #[])∧CAt w' lo b g (c.put z k v) h∧Kept b (b+1) w w':=by
 obtain ⟨n,rfl⟩:∃n:Nat,k=(n:Int):=⟨k.toNat,by omega⟩
 have hn:n<4:=by omega
 have ht:=aQ hv;have HC:=aab hC;have L4:=aab hg.d4;have q0:=hC.cX hn;have f0:=hC.fz n;obtain ⟨x0,x1⟩:=hg.dw n hn;have hk:=ak w b n;have HK:=aab hk;clear hC hg hk;rcases hz with rfl|rfl
 ·have hb:=Aq x0 x1 (v:=v) (by omega) (by omega);clear hv ht;go_enter func252,ntmps252;go_wp2_with fail;go_end0;exact ⟨rfl,HC.o.yS L4.o hn _,HK.o _⟩
 ·clear hv ht;go_enter func252,ntmps252;go_wp2_with fail;go_end0;exact ⟨rfl,HC.o.yS L4.o hn _,HK.o _⟩
theorem Ah (n:Int) (hC:CAt w lo b g c h) (hg:Pl.Good c.r) (h0:0<=n) (h1:n<=1023) :
  Calls prog 198 #[.pointer (some (aac b 0)),iv n] w fun e w'=>e=.returned (.tuple #[])∧CAt w' lo b g (c.bi (aX c.r n)) h∧Kept b (b+1) w w':=by
 have e1:=QZ h0 h1;have e2:=QY h0 h1;have e3:=VQ h0 h1;have e4:=st7 h0 h1;have HC:=aab hC;have h4:=aab hg.a4;have c7:w.cell? (aac b 7)=some (iv (el c.r.ys 3)):=hC.cY (k:=3) (by omega);have c8:=hC.cO;have c10:=hC.cF;have c11:=hC.cM;have c12:=hC.cS;have c13:=hC.cT;have fz:=hC.fz;clear hC hg;by_cases hs:bY n=c.r.s
 ·have q1:(bY n==c.r.s)=true:=by simp [hs]
  have E:Hid (aX c.r n={c.r with s:=bY n,t:=dZ n,m:=n/32%8,f:=n%32}):=aab (by unfold aX;rw [if_pos hs]);clear hs c7 c8;go_enter func198,ntmps198;go_wp2_with fail;go_end0;refine ⟨rfl,?_,(((ak _ _ _ _).one _ _).one _ _).one _ _⟩;rw [E.o];exact (((HC.o.reg (r':={c.r with s:=bY n}) (i:=12) (v:=.bool (bY n)) (by omega) rfl).reg (r':={c.r with s:=bY n,t:=dZ n}) (i:=13) (v:=.bool (dZ n)) (by omega) rfl).reg (r':={c.r with s:=bY n,t:=dZ n,m:=n/32%8}) (i:=11) (v:=iv (n/32%8)) (by omega) rfl).aI (n%32)
 ·have q1:(bY n==c.r.s)=false:=by simpa using hs
  have E:Hid (aX c.r n={c.r with ys:=c.r.ys.set 3 c.r.o,o:=el c.r.ys 3,s:=bY n,t:=dZ n,m:=n/32%8,f:=n%32}):=aab (by unfold aX;rw [if_neg hs]);clear hs;go_enter func198,ntmps198;go_wp2_with fail;go_region;go_wp2_with fail;go_end0;refine ⟨rfl,?_,ah ((((((ak _ _ _ _).one _ _).one _ _).one _ _).one _ _).one _ _)⟩;obtain ⟨Y,hY⟩:∃Y,Y=c.r.ys.set 3 c.r.o:=⟨_,rfl⟩
  have a1:CAt (w.setCell (aac b 7) (iv c.r.o)) lo b g (c.bi {c.r with ys:=Y}) h:=by rw [hY];exact HC.o.uZ h4.o (k:=3) (by omega) c.r.o
  rw [E.o,<-hY];clear hY;have a2:=a1.reg (r':={c.r with ys:=Y,o:=el c.r.ys 3}) (i:=8) (v:=iv (el c.r.ys 3)) (by omega) rfl;have a3:=a2.reg (r':={c.r with ys:=Y,o:=el c.r.ys 3,s:=bY n}) (i:=12) (v:=.bool (bY n)) (by omega) rfl;have a4:=a3.reg (r':={c.r with ys:=Y,o:=el c.r.ys 3,s:=bY n,t:=dZ n}) (i:=13) (v:=.bool (dZ n)) (by omega) rfl;have a5:=a4.reg (r':={c.r with ys:=Y,o:=el c.r.ys 3,s:=bY n,t:=dZ n,m:=n/32%8}) (i:=11) (v:=iv (n/32%8)) (by omega) rfl;have a6:=a5.reg (r':={c.r with ys:=Y,o:=el c.r.ys 3,s:=bY n,t:=dZ n,m:=n/32%8,f:=n%32}) (i:=10) (v:=iv (n%32)) (by omega) rfl;exact a6.drew
theorem pR (a:Int) (w:World):Calls prog 271 #[iv a] w fun e w'=>e=.returned (.bool (Pl.addr a))∧w'=w:=by
 by_cases h0:0<=a
 all_goals
  by_cases h1:a<=65535
  all_goals
   go_enter func271,ntmps271;go_wp2;go_ret;exact ⟨rB (by simp [Pl.addr,h0,h1]<;>omega),rfl⟩
theorem kF (a:Int) (w:World):Calls prog 270 #[iv a] w fun e w'=>e=.returned (.bool (dM a))∧w'=w:=by
 by_cases h0:1<=a
 all_goals
  by_cases h1:a<=3
  all_goals
   go_enter func270,ntmps270;go_wp2;go_ret;exact ⟨rB (by simp [dM,h0,h1]<;>omega),rfl⟩
theorem zL (a:Int) (w:World) (h0:0<=a) (h1:a<=65535):Calls prog 291 #[iv a] w fun e w'=>e=.returned (.bool (decide (a%2=1)))∧w'=w:=by
 go_enter func291,ntmps291;go_wp2;go_ret;refine ⟨rB ?_,rfl⟩;rw [Bool.eq_iff_iff];simp;omega
theorem partOf (a:Int) (w:World):Calls prog 292 #[iv a] w fun e w'=>e=.returned (iv (Pl.kind a))∧w'=w:=by
 by_cases h1:512<=a
 ·have E:Hid (Pl.kind a=1):=aab (by simp [Pl.kind,h1]);go_enter func292,ntmps292;go_wp2;go_ret;exact ⟨rI E.o.symm,rfl⟩
 ·by_cases h2:496<=a
  ·have E:Hid (Pl.kind a=0):=aab (by unfold Pl.kind;rw [if_neg (by omega),if_neg (by omega)]);go_enter func292,ntmps292;go_wp2;go_ret;exact ⟨rI E.o.symm,rfl⟩
  ·by_cases h3:448<=a
   ·have E:Hid (Pl.kind a=1):=aab (by unfold Pl.kind;rw [if_pos (by omega)]);go_enter func292,ntmps292;go_wp2;go_ret;exact ⟨rI E.o.symm,rfl⟩
   ·by_cases h4:384<=a
    ·have E:Hid (Pl.kind a=3):=aab (by unfold Pl.kind;rw [if_neg (by omega),if_pos (by omega)]);go_enter func292,ntmps292;go_wp2;go_ret;exact ⟨rI E.o.symm,rfl⟩
    ·have E:Hid (Pl.kind a=0):=aab (by unfold Pl.kind;rw [if_neg (by omega),if_neg (by omega)]);go_enter func292,ntmps292;go_wp2;go_ret;exact ⟨rI E.o.symm,rfl⟩
namespace Pl
def tX (k s a v c:Int):Bool:=okv s v&&(dM k&&(addr a&&(decide (0<=c)&&decide (c<=3))))
theorem pz (k s a v c:Int):fK k s a v c=(tX k s a v c && !((k==3)&&(c==0))):=by
 unfold fK tX;rw [Bool.eq_iff_iff];simp only [Bool.and_eq_true,Bool.or_eq_true,Bool.not_eq_true',decide_eq_true_eq,bne_iff_ne,ne_eq,Bool.and_eq_false_iff,beq_eq_false_iff_ne];constructor
 ·rintro ⟨a1,a2,a3,a4,a5⟩;exact ⟨⟨a2,a1,a3,a4⟩,a5⟩
 ·rintro ⟨⟨a2,a1,a3,a4⟩,a5⟩;exact ⟨a1,a2,a3,a4,a5⟩
end Pl
theorem vO (k s a v c:Int) (w:World) (lo : -9223372036854775808<=v) (hi:v<=9223372036854775807):Calls prog 237 #[.agg #[iv k,iv s,iv a,iv v,iv c]] w fun e w'=>e=.returned (.bool (tX k s a v c))∧∃o,w'=w.alloc o:=by
 cases h1:okv s v
 ·go_enter func237,ntmps237;go_wp2_with (first|(go_at_call 120;refine st (bU _ _ _ lo hi) ?_;rw [h1])|(go_at_call 270;refine st (kF _ _) ?_)|(go_at_call 271;refine st (pR _ _) ?_));go_ret;exact ⟨rB (by unfold tX;rw [h1];rfl),_,rfl⟩
 ·cases h2:dM k
  ·go_enter func237,ntmps237;go_wp2_with (first|(go_at_call 120;refine st (bU _ _ _ lo hi) ?_;rw [h1])|(go_at_call 270;refine st (kF _ _) ?_;rw [h2])|(go_at_call 271;refine st (pR _ _) ?_));go_ret;exact ⟨rB (by unfold tX;rw [h1,h2];rfl),_,rfl⟩
  ·cases h3:Pl.addr a
   ·go_enter func237,ntmps237;go_wp2_with (first|(go_at_call 120;refine st (bU _ _ _ lo hi) ?_;rw [h1])|(go_at_call 270;refine st (kF _ _) ?_;rw [h2])|(go_at_call 271;refine st (pR _ _) ?_;rw [h3]));go_ret;exact ⟨rB (by unfold tX;rw [h1,h2,h3];rfl),_,rfl⟩
   ·cases h4:decide (0<=c)
    all_goals
     cases h5:decide (c<=3)
     all_goals
      go_enter func237,ntmps237;go_wp2_with (first|(go_at_call 120;refine st (bU _ _ _ lo hi) ?_;rw [h1])|(go_at_call 270;refine st (kF _ _) ?_;rw [h2])|(go_at_call 271;refine st (pR _ _) ?_;rw [h3]));go_ret;exact ⟨rB (by unfold tX;rw [h1,h2,h3,h4,h5];rfl),_,rfl⟩
theorem qW (k s a v c:Int) (w:World) (lo : -9223372036854775808<=v) (hi:v<=9223372036854775807):Calls prog 193 #[.agg #[iv k,iv s,iv a,iv v,iv c]] w fun e w'=>e=.returned (.bool (fK k s a v c))∧∃o p,w'=(w.alloc o).alloc p:=by
 cases h1:tX k s a v c
 ·go_enter func193,ntmps193;go_wp2_with (go_at_call 237;refine (vO _ _ _ _ _ _ lo hi).mono ?_;rintro e w' ⟨rfl,o,rfl⟩;rw [h1]);go_ret;exact ⟨rB (by rw [pz,h1];rfl),_,_,rfl⟩
 ·cases h2:(k==3)
  ·go_enter func193,ntmps193;go_wp2_with (go_at_call 237;refine (vO _ _ _ _ _ _ lo hi).mono ?_;rintro e w' ⟨rfl,o,rfl⟩;rw [h1]);go_ret;exact ⟨rB (by rw [pz,h1,h2];rfl),_,_,rfl⟩
  ·cases h3:(c==0)
   all_goals
    go_enter func193,ntmps193;go_wp2_with (go_at_call 237;refine (vO _ _ _ _ _ _ lo hi).mono ?_;rintro e w' ⟨rfl,o,rfl⟩;rw [h1]);go_ret;exact ⟨rB (by rw [pz,h1,h2,h3];rfl),_,_,rfl⟩
theorem YV (v:Int):okv 1 v=jq v:=by
 unfold okv jq Pl.top;rw [Bool.eq_iff_iff];simp;omega
theorem isByte (v:Int) (w:World) (lo : -9223372036854775808<=v) (hi:v<=9223372036854775807) :
  Calls prog 170 #[iv v] w fun e w'=>e=.returned (.bool (jq v))∧w'=w:=by
 go_enter func170,ntmps170;go_wp2_with (go_at_call 120;refine st (bU _ _ _ lo hi) ?_;rw [YV]);go_ret;exact ⟨rfl,rfl⟩
theorem wF (w:World) (a:Option Addr) (ca:Nat) (xs:List Int) (ha:Came w a xs) (lx:xs.length<=2000000) :
  Calls prog 192 #[.slice a xs.length ca] w fun e w'=>e=.returned (.bool (aZ xs))∧w'=w:=by
 have HA:=aab ha;clear ha;go_enter func192,ntmps192;go_wp2;go_loop [4,7] (fun _ j=>∃k:Nat,k<=xs.length∧j=iv k∧∀i,i<k->jq (el xs i)=true) (fun _ j=>xs.length-(intOf j).toNat)
 case atStart=>exact ⟨0,Nat.zero_le _,rfl,fun i hi=>absurd hi (Nat.not_lt_zero i)⟩
 case round=>
  obtain ⟨k,hk,rfl,heq⟩:=hrel;have HE:=aab heq;clear heq;by_cases hlt:k<xs.length
  ·obtain ⟨g1,o1,rfl,hc1⟩:=HA.o.1 k hlt;obtain ⟨lo,hi⟩:=HA.o.2 k hlt;rw [show xs[k]?.getD 0=el xs k from rfl] at hc1 lo hi;cases hb:jq (el xs k)
   ·go_wp2_with (go_at_call 170;refine st (isByte _ _ lo hi) ?_;rw [hb]);go_ret;exact ⟨rB (wz hlt hb).symm,rfl⟩
   ·go_wp2_with (go_at_call 170;refine st (isByte _ _ lo hi) ?_;rw [hb]);go_round
    case rel=>exact ⟨k+1,by omega,by go_num,kN HE.o hb⟩
    case measure=>simp [intOf];omega
  ·go_wp2;go_ret;exact ⟨rB (qE (fun i hi=>HE.o i (by omega))).symm,rfl⟩
theorem Vh.at5 {ys:List Int} (h:Vh ys) {m k:Nat} (hl:ys.length=5*m) (hk:k<m) : -9223372036854775808<=el ys (k*5+3)∧el ys (k*5+3)<=9223372036854775807:=h (k*5+3) (by omega)
theorem eu (w:World) (a b:Option Addr) (ca cb m:Nat) (xs ys:List Int) (ha:Came w a xs) (hb:Came w b ys) (lx:xs.length<=2000000) (ly:ys.length=5*m) (bm:m<=2000000) :
  Calls prog 138 #[.agg #[.slice a xs.length ca,.slice b m cb]] w fun e w'=>e=.returned (.bool (Pl.eu xs ys m))∧Kept 0 0 w w':=by
 have HA:=aab ha;have HB:=aab hb;have HY:=aab ly;have HK0:=aab (kept_alloc w (.cells #[.slice a xs.length ca,.slice b m cb] 38));clear ha hb ly;cases h1:((xs.length:Int) != 512)
 ·have hl5:xs.length=512:=by simp at h1;omega
  have G:Hid (Pl.eu xs ys m=(jv ys m&&(aZ xs&&decide (m<=400)))):=aab (by
   unfold Pl.eu
   rw [show decide (xs.length=512)=true from by simp [hl5],Bool.true_and])
  clear hl5;cases h2:aZ xs
  ·go_enter func138,ntmps138;go_wp2_with (go_at_call 192;refine st (wF _ a ca xs (HA.o.ai HK0.o) lx) ?_;rw [h2]);go_ret;exact ⟨rB (by rw [G.o,h2,Bool.false_and,Bool.and_false]),HK0.o⟩
  ·cases h3:decide ((400:Int)<(m:Int))
   ·go_enter func138,ntmps138;go_wp2_with (first|(go_at_call 192;refine st (wF _ a ca xs (HA.o.ai HK0.o) lx) ?_;rw [h2])|fail);obtain ⟨W,hW⟩:∃W:World,W=w.alloc (.cells #[.slice a xs.length ca,.slice b m cb] 38):=⟨_,rfl⟩
    rw [<-hW] at HK0 ⊢;clear hW;go_loopw [4,24] (fun _ j wr=>∃k:Nat,k<=m∧j=iv k∧(∀i,i<k->rJ ys i=true)∧Kept 0 0 W wr) (fun _ j _=>m-(intOf j).toNat)
    case atStart=>exact ⟨0,Nat.zero_le _,rfl,fun i hi=>absurd hi (Nat.not_lt_zero i),Kept.refl _ _ _⟩
    case round=>
     obtain ⟨k,hk,rfl,heq,hkept⟩:=hrel;have HE:=aab heq;have HK:=aab hkept;clear heq hkept;by_cases hlt:k<m
     ·obtain ⟨lo,hi⟩:=HB.o.2.at5 HY.o hlt;obtain ⟨g1,o1,rfl,p0,p1,p2,p3,p4⟩:=((HB.o.ai (HK0.o.trans HK.o)).1).five HY.o hlt;cases hb:rJ ys k
      ·have hb2:fK (el ys (k*5)) (el ys (k*5+1)) (el ys (k*5+2)) (el ys (k*5+3)) (el ys (k*5+4))=false:=hb;clear hb;go_wp2_with (go_at_call 193;refine (qW _ _ _ _ _ _ lo hi).mono ?_;rintro e w' ⟨rfl,o,p,rfl⟩;rw [hb2]);go_ret;exact ⟨rB (by unfold Pl.eu;rw [xw hlt hb2];rfl),HK0.o.trans (ag (ag (ag HK.o _) _) _)⟩
      ·have hb2:fK (el ys (k*5)) (el ys (k*5+1)) (el ys (k*5+2)) (el ys (k*5+3)) (el ys (k*5+4))=true:=hb;clear hb;go_wp2_with (go_at_call 193;refine (qW _ _ _ _ _ _ lo hi).mono ?_;rintro e w' ⟨rfl,o,p,rfl⟩;rw [hb2]);go_roundw
       case rel=>exact ⟨k+1,by omega,by go_num,kN HE.o hb2,ag (ag (ag HK.o _) _) _⟩
       case measure=>simp [intOf];omega
     ·have HA1:Hid (jv ys m=true):=aab (xu (fun i hi=>HE.o i (by omega)));go_wp2_with fail;go_ret;refine ⟨rB ?_,HK0.o.trans HK.o⟩;rw [G.o,HA1.o,h2];simp at h3;simp;omega
   ·go_enter func138,ntmps138;go_wp2_with (go_at_call 192;refine st (wF _ a ca xs (HA.o.ai HK0.o) lx) ?_;rw [h2]);go_ret;refine ⟨rB ?_,HK0.o⟩;rw [G.o];simp at h3;rw [show decide (m<=400)=false from by simp;omega];simp
 ·have hl5:Hid (¬xs.length=512):=aab (by simp at h1;omega);go_enter func138,ntmps138;go_wp2_with (go_at_call 192;fail);go_ret;refine ⟨rB ?_,HK0.o⟩;unfold Pl.eu;rw [show decide (xs.length=512)=false from by simp [hl5.o]];simp
def zeros:List Int:=List.replicate 512 0
theorem fE:zeros.length=512:=List.length_replicate ..
theorem Tryz.DW:(prog.info? 154).map (fun i=>(i.zero,i.size))=some (some (.agg (cellsOf zeros)),512):=by kernel_rfl
theorem Tryz.OG:∀w,(zeroValue 154).run prog w=.ok (.agg (cellsOf zeros)) w:=(zero_of_info Tryz.DW).1
theorem Tryz.xQ:(prog.info? 154).map (·.size)=some 512:=(zero_of_info Tryz.DW).2
theorem Jo (w : World) (a b : Option Addr) (ca cb m : Nat) (xs : List Int) (ha : aB w a xs) (lx : xs.length = 512) :
    Calls prog 177 #[.agg #[.slice a xs.length ca, .slice b m cb]] w fun e w' => e = .returned (.agg (cellsOf xs)) ∧ Kept 0 0 w w' := by
  obtain ⟨ga, oa, rfl, _⟩ := ha 0 (by omega);have HA := aab ha;have HX := aab lx;clear ha lx;have mz := Tryz.OG;have HS : Hid ((prog.info? 3).map (·.size) = some 1) := aab (by kernel_rfl);go_enter func177, ntmps177;go_wp2_with fail;have K := aab (ag (ag (kept_alloc w (.cells #[.slice (some ⟨ga, oa, none⟩) xs.length ca, .slice b m cb] 38)) (.cells (cellsOf zeros) 154)) (.cells (cellsOf zeros) 154));have B0 := (((Blk.new w #[.slice (some ⟨ga, oa, none⟩) xs.length ca, .slice b m cb] 38).alloc (.cells (cellsOf zeros) 154)).alloc (.cells (cellsOf zeros) 154))
  have B1 := ((Blk.new (w.alloc (.cells #[.slice (some ⟨ga, oa, none⟩) xs.length ca, .slice b m cb] 38)) (cellsOf zeros) 154).alloc (.cells (cellsOf zeros) 154))
  have B2 := Blk.new ((w.alloc (.cells #[.slice (some ⟨ga, oa, none⟩) xs.length ca, .slice b m cb] 38)).alloc (.cells (cellsOf zeros) 154)) (cellsOf zeros) 154;simp only [World.size_alloc] at B1 B2;obtain ⟨W, hW⟩ : ∃ W : World, W = (((w.alloc (.cells #[.slice (some ⟨ga, oa, none⟩) xs.length ca, .slice b m cb] 38)).alloc (.cells (cellsOf zeros) 154)).alloc (.cells (cellsOf zeros) 154)) := ⟨_, rfl⟩
  rw [<- hW] at K B0 B1 B2 ⊢;clear hW;have p0 := B0.cell (i := 0) rfl;have H1 := aab B1;have H2 := aab B2;clear B0 B1 B2;have HZ : Hid ((prog.info? 154).map (·.size) = some (cellsOf xs).size) := aab (by rw [cellsOf_size, HX.o]; exact Tryz.xQ);have HZ2 : Hid ((cellsOf zeros).size = (cellsOf xs).size) := aab (by rw [cellsOf_size, cellsOf_size, HX.o, fE]);have HN : Hid ((xs.map (Value.int .i64)).length = Nat.min xs.length 512) := aab (by rw [HX.o]; simp [HX.o]);have HF : Hid (0 + (xs.map (Value.int .i64)).length <= (zeros.map (Value.int .i64)).length) := aab (by simp [HX.o, fE])
  go_region_law (refine step_copy_splice rfl (.tmp 4) (.tmp 6) 22 22 rfl 3 underlying22 HS.o _ _ _ _ _ _ rfl rfl (w.heap.size + 1 + 1) 0 (zeros.map (Value.int .i64)) 154 ?hg (xs.map (Value.int .i64)) HN.o ?hpos HF.o iD (w.heap.size + 1 + 1) W ?hb (Nat.le_refl _) ?_
                 (case hg => exact H2.o)
                 (case hb => exact (Below.refl _ W).drew)
                 (case hpos => intro _; exact ⟨rfl, _, rfl, iJ (HA.o.ai (ah K.o))⟩)
                 intro w4 hg4 hb4)
  all_goals
    have D2 : Hid (Blk w4 (w.heap.size + 1 + 1) (cellsOf xs) 154) := aab (by
      have h := hg4.o;rw [Bh (by simp [HX.o, fE])] at h
      exact h)
    have D1 : Hid (Blk w4 (w.heap.size + 1) (cellsOf zeros) 154) := aab ((hb4.block _ (by omega)).trans H1.o);have K4 : Hid (Kept 0 0 w w4) := aab (eY K.o hb4 (by omega));clear hg4 hb4;go_wp2_with (first | (refine wpList_load_row rfl 154 (.tmp 3) rfl (w.heap.size + 1 + 1) rfl 154 (cellsOf xs) (0, 0) _ D2.o underlying154 rfl HZ.o ?_) | (refine wpList_store_row rfl 154 (.tmp 2) (.tmp 8) rfl (w.heap.size + 1) (cellsOf xs) rfl rfl 154 (cellsOf zeros) D1.o HZ.o HZ2.o (uh xs) ?_));refine bodyPost_ret (v := .agg (cellsOf xs)) ?_ rfl ⟨rfl, lC K4.o _ _ (by omega)⟩;exact results_cell_row rfl _ _ _ _ _ (0, 0) _ rfl D1.o.setRow underlying154 rfl HZ.o
theorem OI (w:World) (xs:List Int) (lx:xs.length=512) :
  Calls prog 181 #[.agg (cellsOf xs)] w fun e w'=>∃g:Nat,e=.returned (.slice (some (aac g 0)) 512 512)∧Blk w' g (cellsOf xs) 3∧w.heap.size<=g∧Kept 0 0 w w':=by
 obtain ⟨i,hi,hz0,hz1,hz2⟩:=info_parts Tryz.info3;have HS:Hid ((prog.info? 3).map (·.size)=some 1):=aab (by kernel_rfl);have HX:=aab lx;clear lx;go_enter func181,ntmps181;go_wp2_with (first|(at_make;refine wpList_make_full _ rfl _ _ 22 rfl w.heap.size 3 i (iv 0) 1 underlying22 hi hz0 hz1 _ _ _ _ 512 rfl rfl rfl rfl ?c1 ?c2 ?c3 ?_))
 case c1=>rw [hz2];decide
 case c2=>unfold maxLen;decide
 case c3=>simp
 intro w1 hown hg;have K1:=aab ((kept_alloc w (.cells (cellsOf xs) 154)).trans (aT hg));have B0:=aab ((Blk.new w (cellsOf xs) 154).ae (aT hg))
 have B1:Hid (Blk w1 (w.heap.size+1) (cellsOf zeros) 3):=aab (by
  have h:=wB hown
  have e:(madeCells #[Value.int .i64 0] 512).toList=zeros.map (Value.int .i64):=by
   rw [toList_madeCells_one,zeros,List.map_replicate]
  rw [e] at h
  exact h)
 clear hown hg;have HR:Hid (aB w1 (some (aac w.heap.size 0)) xs):=aab (iC B0.o).row
 have hcopy:(Builtin.copy_ #[22,22] 3 #[.slice (some (aac (w.heap.size+1) 0)) 512 512,.slice (some (aac w.heap.size 0)) 512 512]).run prog w1=.ok (iv 512) (w1.setRow (w.heap.size+1) (cellsOf xs)):=by
  have h:=run_copy_row prog w1 22 22 3 3 (w.heap.size+1) 0 512 512 (aac w.heap.size 0) 512 512 (cellsOf zeros) 3 (xs.map (Value.int .i64)) underlying22 HS.o B1.o (by simp [HX.o]) (iJ HR.o) (by simp [HX.o,cellsOf_size,fE]) iD;rw [h]
  have e:(List.take 0 (cellsOf zeros).toList++xs.map (Value.int .i64)++List.drop (0+(xs.map (Value.int .i64)).length) (cellsOf zeros).toList)=xs.map (Value.int .i64):=by
   rw [List.drop_eq_nil_of_le (by simp [HX.o,cellsOf_size,fE])];simp
  rw [e,show (xs.map (Value.int .i64)).length=512 by simp [HX.o]];rfl
 go_wp2_with fail;have hl:=B1.o.lt;refine bodyPost_ret (results_tmp rfl _ _ _) rfl ⟨w.heap.size+1,rfl,B1.o.setRow,by omega,lC K1.o _ _ (by omega)⟩
theorem DC (w:World) (xs:List Int) (s n:Nat) (lx:xs.length=512) (hb:aZ xs=true) (s0:1<=s) (s1:s<=2) (hn:n+s<=512) :
  Calls prog 294 #[.agg (cellsOf xs),iv s,iv n] w fun e w'=>e=.returned (iv (Pl.rd xs s n))∧Kept 0 0 w w':=by
 have HX:=aab lx;have HO:=aab (iC (Blk.new w (cellsOf xs) 154));have HK:=aab (kept_alloc w (.cells (cellsOf xs) 154));have HB:=aab hb;have HS0:=aab s0;have HN:Hid (n+s<=512):=aab hn;clear lx hb
 have hsl:∀W:World,(Instr.sliceAt 154 (.pointer (some (aac w.heap.size 0))) (some (iv (n:Int))) (some (iv ((n:Int)+(s:Int)))) none).run prog W=.ok (.slice (some ⟨w.heap.size,n,none⟩) s (512-n)) W:=by
  intro W;have hlen:prog.arrayLen 154=512:=by kernel_rfl
  have hel:prog.elem 154=3:=by kernel_rfl
  have ht:prog.underlying 154=some (.array (prog.arrayLen 154) (prog.elem 154)):=by kernel_rfl
  obtain ⟨i,hi,hz0,hz1,hz2⟩:=info_parts Tryz.info3;rw [run_sliceAt_array_lh W 154 _ ht .i64 .i64 n ((n:Int)+(s:Int)) (by omega) (by omega) (by rw [hlen];omega),hlen,hel];have e1:((n:Int)).toNat=n:=by omega
  have e2:((n:Int)+(s:Int)).toNat-n=s:=by omega
  have q1:¬512=n:=by omega
  simp only [sizeOf,typeInfo,Sem.run_bind,Sem.run_pure,slicedAt,e1,e2,q1,if_false];simp [hi,hz1,Addr.add];intro h0;exact h0.symm
 go_enter func294,ntmps294;go_wp2_with fail;go_loop [7,9,16] (fun v _ j=>∃k:Nat,k<=s∧j=iv k∧v=iv (rdK xs n k)) (fun _ _ j=>s-(intOf j).toNat)
 case atStart=>exact ⟨0,Nat.zero_le _,rfl,rfl⟩
 case round=>
  obtain ⟨k,hk,rfl,rfl⟩:=hrel;by_cases hlt:k<s
  ·obtain ⟨hc,_⟩:=HO.o (n+k) (by rw [HX.o];omega);have b0:=dD HB.o n (by rw [HX.o];omega);have b1:=dD HB.o (n+k) (by rw [HX.o];omega);rw [show xs[n+k]?.getD 0=el xs (n+k) from rfl] at hc;obtain ⟨b00,b01⟩:=b0;obtain ⟨b10,b11⟩:=b1;by_cases hk0:k=0
   ·subst hk0;have hor:=ut (h:=0) (by decide) (by decide) b10 b11;rw [Int.zero_mul,Int.zero_add] at hor;rw [Nat.add_zero] at hc hor b10 b11;rw [show rdK xs n 0=0 from rfl];go_wp2;go_round
    case rel=>exact ⟨1,by omega,rfl,rfl⟩
    case measure=>simp [intOf];omega
   ·obtain rfl:k=1:=by omega
    have hor:=ut b00 b01 b10 b11;rw [show rdK xs n 1=el xs n from rfl];go_wp2;go_round
    case rel=>exact ⟨2,by omega,rfl,rfl⟩
    case measure=>simp [intOf];omega
  ·have E:Hid (rdK xs n k=Pl.rd xs s n):=aab (by
    have:k=1∨k=2:=by omega
    unfold rdK Pl.rd;rcases this with rfl|rfl
    ·rw [if_neg (by decide),if_pos rfl,if_pos (by omega)]
    ·rw [if_neg (by decide),if_neg (by decide),if_neg (by omega)])
   go_wp2;go_ret;exact ⟨rI E.o,HK.o⟩
theorem codeOf (k s a v c:Int) (w:World) (hs:s=1∨s=2) (a0:0<=a) (a1:a<=65535) :
  Calls prog 267 #[.agg #[iv k,iv s,iv a,iv v,iv c]] w fun e w'=>e=.returned (iv (Pl.code k s a))∧∃o,w'=w.alloc o:=by
 have G:Hid (Pl.code k s a=if ((s==2)&&decide (a%2=1)) then 2 else if ((Pl.kind a==3)&&(k != 2)) then 0 else Pl.kind a):=aab (by
  rw [Gn hs]
  simp only [Bool.and_eq_true,beq_iff_eq,decide_eq_true_eq,bne_iff_ne,ne_eq])
 cases h1:(s==2)
 ·cases h3:(Pl.kind a==3)
  ·rw [h1,h3] at G;go_enter func267,ntmps267;go_wp2_with (first|(go_at_call 291;refine st (zL _ _ a0 a1) ?_)|(go_at_call 292;refine st (partOf _ _) ?_));go_ret;exact ⟨rI (by rw [G.o];simp),_,rfl⟩
  ·cases h4:(k != 2)
   all_goals
    rw [h1,h3,h4] at G;go_enter func267,ntmps267;go_wp2_with (first|(go_at_call 291;refine st (zL _ _ a0 a1) ?_)|(go_at_call 292;refine st (partOf _ _) ?_));go_ret;exact ⟨rI (by rw [G.o];simp),_,rfl⟩
 ·cases h2:decide (a%2=1)
  ·cases h3:(Pl.kind a==3)
   ·rw [h1,h2,h3] at G;go_enter func267,ntmps267;go_wp2_with (first|(go_at_call 291;refine st (zL _ _ a0 a1) ?_;rw [h2])|(go_at_call 292;refine st (partOf _ _) ?_));go_ret;exact ⟨rI (by rw [G.o];simp),_,rfl⟩
   ·cases h4:(k != 2)
    all_goals
     rw [h1,h2,h3,h4] at G;go_enter func267,ntmps267;go_wp2_with (first|(go_at_call 291;refine st (zL _ _ a0 a1) ?_;rw [h2])|(go_at_call 292;refine st (partOf _ _) ?_));go_ret;exact ⟨rI (by rw [G.o];simp),_,rfl⟩
  ·rw [h1,h2] at G;go_enter func267,ntmps267;go_wp2_with (first|(go_at_call 291;refine st (zL _ _ a0 a1) ?_;rw [h2])|(go_at_call 292;refine st (partOf _ _) ?_));go_ret;exact ⟨rI (by rw [G.o];simp),_,rfl⟩
theorem Jp (w:World) (xs:List Int) (s:Int) (n:Nat) (lx:xs.length=512) (hb:aZ xs=true) (hs:s=1∨s=2) (hn:(n:Int)+s<=512) :
  Calls prog 294 #[.agg (cellsOf xs),iv s,iv n] w fun e w'=>e=.returned (iv (Pl.rd xs s n))∧Kept 0 0 w w':=by
 rcases hs with rfl|rfl
 ·exact DC w xs 1 n lx hb (by decide) (by decide) (by omega)
 ·exact DC w xs 2 n lx hb (by decide) (by decide) (by omega)
theorem Zx {w:World} {q:Nat} {k s a v c:Int} {ty:TypeId} (h:Blk w q #[iv k,iv s,iv a,iv v,iv c] ty):w.cell? (aac q 1)=some (iv s)∧w.cell? (aac q 2)=some (iv a)∧w.cell? (aac q 3)=some (iv v):=
 ⟨h.cell (i:=1) rfl,h.cell (i:=2) rfl,h.cell (i:=3) rfl⟩
theorem XE {w:World} {q:Nat} {k s a v c:Int} {ty:TypeId} (h:Blk w q #[iv k,iv s,iv a,iv v,iv c] ty):w.cell? (aac q 1)=some (iv s)∧w.cell? (aac q 2)=some (iv a):=
 ⟨h.cell (i:=1) rfl,h.cell (i:=2) rfl⟩
namespace Pl
theorem V6 {xs:List Int} {s:Int} {i:Nat} (hb:aZ xs=true) (hs:s=1∨s=2) (hi:(i:Int)+s<=xs.length):0<=rd xs s i∧rd xs s i<=(if s=1 then 255 else 65535):=by
 unfold rd;rcases hs with rfl|rfl
 ·rw [if_pos rfl,if_pos rfl];exact dD hb i (by omega)
 ·rw [if_neg (by decide),if_neg (by decide)];have:=dD hb i (by omega);have:=dD hb (i+1) (by omega);omega
theorem Qh (k s a:Int):0<=code k s a∧code k s a<=3:=by
 unfold code;repeat' split
 all_goals omega
theorem Rt {xs:List Int} {k s a v:Int} (hl:xs.length=512) (hb:aZ xs=true) (h:eP k s a v=true):0<=lv xs k s a v∧lv xs k s a v<=(if s=1 then 255 else 65535):=by
 obtain ⟨_,hs,v0,⟨a0,a1⟩,_⟩:=qF h;unfold lv;split
 ·rename_i hc;have:=rE hc.1 a0;exact V6 hb (by omega) (by omega)
 ·rcases hs with ⟨rfl,h1⟩|⟨rfl,h1⟩
  ·rw [if_pos rfl];omega
  ·rw [if_neg (by decide)];omega
theorem Nb {xs:List Int} {k s a v:Int} (hl:xs.length=512) (hb:aZ xs=true) (h:eP k s a v=true):fK k s a (lv xs k s a v) (code k s a)=((k != 3)||(code k s a != 0)):=by
 have hv:=Rt hl hb h;have hc:=Qh k s a;obtain ⟨hk,hs,_,⟨a0,a1⟩,_⟩:=qF h;have e1:dM k=true:=by simp [dM];omega
 have e2:okv s (lv xs k s a v)=true:=by
  unfold okv top;rcases hs with ⟨rfl,_⟩|⟨rfl,_⟩
  ·rw [if_pos rfl] at hv;simp;omega
  ·rw [if_neg (by decide)] at hv;simp;omega
 have e3:addr a=true:=by simp [addr];omega
 have e4:(decide (0<=code k s a)&&decide (code k s a<=3))=true:=by simp;omega
 unfold fK;rw [e1,e2,e3,e4];rfl
end Pl
theorem Blk.Il {w:World} {b:Nat} {r:Rg} {st:Bool} {ha:Hl} {xs:List Int} {u:Value} {ty:TypeId} (h:Blk w b (cor r xs u st ha) ty) {i:Nat} (hi:i<xs.length) (z:Int):Blk (w.setCell ⟨b,14+i,none⟩ (iv z)) b (cor r (xs.set i z) u st ha) ty:=by
 have:=h.set (14+i) (iv z)
 rwa [LG hi] at this
theorem Blk.VS {w:World} {b:Nat} {r:Rg} {st:Bool} {ha:Hl} {xs:List Int} {u:Value} {ty:TypeId} (h:Blk w b (cor r xs u st ha) ty) (hl:xs.length=512) (u':Value):Blk (w.setCell (aac b 526) u') b (cor r xs u' st ha) ty:=by
 have:=h.set 526 u'
 rwa [Lt hl] at this
theorem Gl {w:World} {b:Nat} {r:Rg} {st:Bool} {ha:Hl} {xs:List Int} {u:Value} {ty:TypeId} (h:Blk w b (cor r xs u st ha) ty) (lx:xs.length=512):w.rangeAt b 14 (xs.map (Value.int .i64))∧w.cell? (aac b 526)=some u:=by
 refine ⟨?_,h.cell (kH lx)⟩;intro j v hv
 have hj:j<xs.length:=by
  rcases Nat.lt_or_ge j xs.length with h'|h'
  ·exact h'
  ·rw [List.getElem?_eq_none (by simpa using h')] at hv;cases hv
 refine h.cell ?_;rw [vY hj];simpa [el,hj] using hv
theorem CP (w:World) {R:Rg} {ST:Bool} {HA:Hl} (b:Nat) (u:Value) (ty:TypeId) (xs:List Int) (n:Nat) (v:Int) (hB:Blk w b (cor R xs u ST HA) ty) (lx:xs.length=512) (hn:n+1<=512) (v0:0<=v) (v1:v<=255) :
  Calls prog 293 #[.pointer (some (aac b 14)),iv 1,iv n,iv v] w fun e w'=>e=.returned (.tuple #[])∧Blk w' b (cor R (xs.set n v) u ST HA) ty∧Kept b (b+1) w w':=by
 have HB:=aab hB;have LX:=aab lx;have c0:=hB.cell (vY (r:=R) (u:=u) (st:=ST) (ha:=HA) (i:=n) (by omega));have f0:=hB.frozen (14+n);have e255:=gW v;have e0:v%256=v:=by omega
 rw [e0] at e255;have i0:(0:Int)<=(n:Int):=by omega
 have i1:(n:Int)<512:=by omega
 clear hB lx e0;go_enter func293,ntmps293;go_wp2_with fail;go_loopw [3,8] (fun x i wr=>(i=iv n∧x=iv v∧wr=w)∨(i=iv ((n:Int)-1)∧Blk wr b (cor R (xs.set n v) u ST HA) ty∧Kept b (b+1) w wr)) (fun _ i _=>(intOf i-n+1).toNat)
 case atStart=>exact .inl ⟨by go_num,rfl,rfl⟩
 case round=>
  rcases hrel with ⟨rfl,rfl,rfl⟩|⟨rfl,hb,hk⟩
  ·go_wp2;go_roundw
   case rel=>exact .inr ⟨rfl,HB.o.Il (by rw [LX.o];omega) v,af (Kept.refl _ _ _) _ _ _ (.inl (by omega))⟩
   case measure=>simp [intOf];omega
  ·have HB2:=aab hb;have HK2:=aab hk;clear hb hk;have hd:decide ((n:Int)<=(n:Int)-1)=false:=by simp;omega
   go_wp2;go_end0;exact ⟨rfl,HB2.o,HK2.o⟩
theorem CJ (w:World) {R:Rg} {ST:Bool} {HA:Hl} (b:Nat) (u:Value) (ty:TypeId) (xs:List Int) (n:Nat) (v:Int) (hB:Blk w b (cor R xs u ST HA) ty) (lx:xs.length=512) (hn:n+2<=512) (v0:0<=v) (v1:v<=65535) :
  Calls prog 293 #[.pointer (some (aac b 14)),iv 2,iv n,iv v] w fun e w'=>e=.returned (.tuple #[])∧Blk w' b (cor R ((xs.set n (v/256)).set (n+1) (v%256)) u ST HA) ty∧Kept b (b+1) w w':=by
 have HB:=aab hB;have LX:=aab lx;have c1:=hB.cell (vY (r:=R) (u:=u) (st:=ST) (ha:=HA) (i:=n+1) (by omega));have f1:=hB.frozen (14+(n+1));have e255:=gW v;have e256:=gW (v/256);have e0:v/256%256=v/256:=by omega
 rw [e0] at e256;have i0:(0:Int)<=(n:Int):=by omega
 have i1:(n:Int)+1<512:=by omega
 have i2:(0:Int)<=(n:Int)+1:=by omega
 have i3:(n:Int)<512:=by omega
 clear hB lx e0;go_enter func293,ntmps293;go_wp2_with fail;go_loopw [3,8] (fun x i wr=>(i=iv ((n:Int)+1)∧x=iv v∧wr=w)∨(i=iv n∧x=iv (v/256)∧Blk wr b (cor R (xs.set (n+1) (v%256)) u ST HA) ty∧Kept b (b+1) w wr)∨(i=iv ((n:Int)-1)∧Blk wr b (cor R ((xs.set (n+1) (v%256)).set n (v/256)) u ST HA) ty∧Kept b (b+1) w wr)) (fun _ i _=>(intOf i-n+1).toNat)
 case atStart=>exact .inl ⟨by go_num,rfl,rfl⟩
 case round=>
  rcases hrel with ⟨rfl,rfl,rfl⟩|⟨rfl,rfl,hb,hk⟩|⟨rfl,hb,hk⟩
  ·go_wp2;go_roundw
   case rel=>exact .inr (.inl ⟨by go_num,by go_num,HB.o.Il (by rw [LX.o];omega) _,af (Kept.refl _ _ _) _ _ _ (.inl (by omega))⟩)
   case measure=>simp [intOf];omega
  ·have HB2:=aab hb;have HK2:=aab hk;have c0:=hb.cell (vY (r:=R) (u:=u) (st:=ST) (ha:=HA) (i:=n) (by rw [List.length_set,LX.o];omega));have f0:=hb.frozen (14+n);clear hb hk c1 f1;go_wp2;go_roundw
   case rel=>exact .inr (.inr ⟨rfl,HB2.o.Il (by rw [List.length_set,LX.o];omega) _,af HK2.o _ _ _ (.inl (by omega))⟩)
   case measure=>simp [intOf];omega
  ·have HB2:=aab hb;have HK2:=aab hk;clear hb hk;have hd:decide ((n:Int)<=(n:Int)-1)=false:=by simp;omega
   go_wp2;go_end0;refine ⟨rfl,?_,HK2.o⟩;have h:=HB2.o;rw [List.set_comm _ _ (by omega)] at h;exact h
theorem Gv (w:World) {R:Rg} {ST:Bool} {HA:Hl} (b:Nat) (u:Value) (ty:TypeId) (xs:List Int) (s:Int) (n:Nat) (v:Int) (hB:Blk w b (cor R xs u ST HA) ty) (lx:xs.length=512) (hs:(s=1∧v<=255)∨(s=2∧v<=65535)) (hn:(n:Int)+s<=512) (v0:0<=v) :
  Calls prog 293 #[.pointer (some (aac b 14)),iv s,iv n,iv v] w fun e w'=>e=.returned (.tuple #[])∧Blk w' b (cor R (Pl.wr xs s n v) u ST HA) ty∧Kept b (b+1) w w':=by
 rcases hs with ⟨rfl,hv⟩|⟨rfl,hv⟩
 ·exact CP w b u ty xs n v hB lx (by omega) v0 hv
 ·exact CJ w b u ty xs n v hB lx (by omega) v0 hv
theorem Aj (w:World) {R:Rg} {ST:Bool} {HA:Hl} (b q:Nat) (u:Value) (xs:List Int) (s:Int) (n:Nat) (v c:Int) (hB:Blk w b (cor R xs u ST HA) HA.t.y) (hQ:Blk w q #[iv 2,iv s,iv n,iv v,iv c] 179) (lx:xs.length=512) (hs:(s=1∧v<=255)∨(s=2∧v<=65535)) (hn:(n:Int)+s<=512) (v0:0<=v) (hne:q≠b) :
  Calls prog 268 #[.pointer (some (aac b 14)),.pointer (some (aac q 0))] w fun e w'=>e=.returned (.tuple #[])∧Blk w' b (cor R (Pl.wr xs s n v) u ST HA) HA.t.y∧Kept b (b+1) w w':=by
 have HB:=aab hB;have HX:=aab lx;have HS:=aab hs;have HN:=aab hn;have HQ:=aab hQ;have q0:=hQ.all;clear hB hQ lx hs hn;go_enter func268,ntmps268;go_wp2_with fail
 go_region_held3 (fun w'=>w'.cell? (aac q 1)=some (iv s)∧w'.cell? (aac q 2)=some (iv n)∧w'.cell? (aac q 3)=some (iv v)) (first|exact Zx Q3.o|go_keep)
  (first|(go_at_call 293;refine (Gv _ b u HA.t.y xs s n v (HB.o.ae (ah (Kept.refl _ _ _))) HX.o HS.o HN.o v0).mono ?_;rintro e w3 ⟨rfl,hb3,kd⟩;have B3:=aab hb3;have K3:=aab (aK kd);have Q3:=aab (HQ.o.kept (aK kd) (by omega));clear hb3 kd))
 go_wp2_with fail;refine bodyPost_ret (results_none rfl _ _ _) rfl ⟨rfl,B3.o,K3.o⟩
theorem Ak (w:World) {R:Rg} {ST:Bool} {HA:Hl} (b q:Nat) (u:Value) (xs:List Int) (k s:Int) (n:Nat) (v c:Int) (hB:Blk w b (cor R xs u ST HA) HA.t.y) (hQ:Blk w q #[iv k,iv s,iv n,iv v,iv c] 179) (lx:xs.length=512) (hby:aZ xs=true) (hk:¬k=2) (hs:s=1∨s=2) (hn:(n:Int)+s<=512) (hne:q≠b) :
  Calls prog 268 #[.pointer (some (aac b 14)),.pointer (some (aac q 0))] w fun e w'=>e=.returned (.tuple #[])∧Blk w' q #[iv k,iv s,iv n,iv (Pl.rd xs s n),iv c] 179∧Kept q (q+1) w w':=by
 have HB:=aab hB;have HX:=aab lx;have HS:=aab hs;have HN:=aab hn;have HQ:=aab hQ;have HBY:=aab hby
 have hu:=underlying154;have hcs:(xs.map (Value.int .i64)).length=512:=by rw [List.length_map,lx]
 have hi:(prog.info? 154).map (·.size)=some (xs.map (Value.int .i64)).length:=by rw [hcs];exact Tryz.xQ
 have h1:∀v∈xs.map (Value.int .i64),v.oneCell'=true:=iD;have q0:=hQ.all;have r1:=(Gl hB lx).1;have k2:(k==2)=false:=by simpa using hk
 clear hB hQ lx hs hn hk hby
 go_enter func268,ntmps268;go_wp2_with fail
 go_region_held3 (fun w'=>w'.rangeAt b 14 (xs.map (Value.int .i64))∧w'.cell? (aac q 1)=some (iv s)∧w'.cell? (aac q 2)=some (iv n)) (first|exact ⟨(Gl B3.o HX.o).1,XE Q3.o⟩|exact ⟨(Gl (B3.o.other _ _ _ (fun e=>hne e.symm)) HX.o).1,XE (Q3.o.set 3 _)⟩|go_keep_ranges|go_keep)
  (first|(go_at_call 294;refine (Jp _ xs s n HX.o HBY.o HS.o HN.o).mono ?_;rintro e w3 ⟨rfl,kd⟩;have K3:=aab (aK kd);have B3:=aab (HB.o.ae (aK kd));have Q3:=aab (HQ.o.ae (aK kd));have c3:=Q3.o.cell (i:=3) rfl;have f3:=Q3.o.frozen 3;clear kd))
 go_wp2_with fail;go_end0;refine ⟨rfl,Q3.o.set 3 _,?_⟩;exact af K3.o.any _ _ _ (.inl (by omega))
theorem Fa {w X w3:World} {b q g:Nat} (k:Kept 0 0 w X) (h:FrP (fun i=>i=b∨i=q) X w3) (hq:w.heap.size<=q):Since w b (b+1) g w3 g:=
 ⟨.inl rfl,⟨h.os.trans k.os,h.tape.trans k.tape,h.output.trans k.output,Nat.le_trans k.size h.size,fun i hi hn=>(h.block i (Nat.lt_of_lt_of_le hi k.size) (by unfold own at hn;omega)).trans (k.block i hi (by omega))⟩⟩
theorem Gu (w:World) {R:Rg} {ST:Bool} {HA:Hl} (b:Nat) (xs:List Int) (d:Option Addr) (m cu:Nat) (k s a v c:Int) (hB:Blk w b (cor R xs (.slice d m cu) ST HA) HA.t.y) (lx:xs.length=512) (bm:m<=400) (lo : -9223372036854775808<=v) (hi:v<=9223372036854775807) (hno:(decide (m<400)&&fK k s a v c)=false) :
  Calls prog 269 #[.pointer (some (aac b 14)),.agg #[iv k,iv s,iv a,iv v,iv c]] w fun e w'=>e=.returned (.tuple #[])∧Kept 0 0 w w':=by
 have HB:=aab hB;have l0:=hB.cell (kH lx);have K0:=aab (kept_alloc w (.cells #[iv k,iv s,iv a,iv v,iv c] 179));have l1:=(hB.alloc (.cells #[iv k,iv s,iv a,iv v,iv c] 179)).cell (kH lx);clear hB;cases h1:decide ((m:Int)<400)
 ·go_enter func269,ntmps269;go_wp2_with (go_at_call 193;fail);go_end0;exact ⟨rfl,K0.o⟩
 ·have h2:fK k s a v c=false:=by
   rw [show decide (m<400)=true from by simp at h1;simp;omega,Bool.true_and] at hno;exact hno
  clear hno;go_enter func269,ntmps269;go_wp2_with (go_at_call 193;refine (qW _ _ _ _ _ _ lo hi).mono ?_;rintro e w' ⟨rfl,o,p,rfl⟩;rw [h2]);go_end0;exact ⟨rfl,ag (ag K0.o _) _⟩
theorem Gt (w:World) {R:Rg} {ST:Bool} {HA:Hl} (b base g2:Nat) (xs ys:List Int) (m cu:Nat) (k s a v c:Int) (hB:Blk w b (cor R xs (.slice (some (aac g2 0)) m cu) ST HA) HA.t.y) (lx:xs.length=512) (hO:w.ownsRow base 179 5 (.slice (some (aac g2 0)) m cu) m (ys.map (Value.int .i64))) (hb:base<=b) (hbs:base<=w.heap.size) (hne:b≠g2) (bm:m<400) (lo : -9223372036854775808<=v) (hi:v<=9223372036854775807) (hyes:fK k s a v c=true) :
  Calls prog 269 #[.pointer (some (aac b 14)),.agg #[iv k,iv s,iv a,iv v,iv c]] w fun e w'=>∃g3 c3:Nat,e=.returned (.tuple #[])∧Blk w' b (cor R xs (.slice (some (aac g3 0)) (m+1) c3) ST HA) HA.t.y∧w'.ownsRow base 179 5 (.slice (some (aac g3 0)) (m+1) c3) (m+1) ((ys++[k,s,a,v,c]).map (Value.int .i64))∧b≠g3∧Since w b (b+1) g2 w' g3:=by
 obtain ⟨i,hi0,hz0,hz1,hz2⟩:=info_parts Tryz.jR;have HB:=aab hB;have HO:=aab hO;have HX:=aab lx;have l0:=hB.cell (kH lx);have K0:=aab (kept_alloc w (.cells #[iv k,iv s,iv a,iv v,iv c] 179));have l1:=(hB.alloc (.cells #[iv k,iv s,iv a,iv v,iv c] 179)).cell (kH lx);have h1:decide ((m:Int)<400)=true:=by simp;omega
 clear hB hO;go_enter func269,ntmps269;go_wp2_with (go_at_call 193;refine (qW _ _ _ _ _ _ lo hi).mono ?_;rintro e w' ⟨rfl,o,p,rfl⟩;rw [hyes]);have BW:=aab ((((HB.o.alloc (.cells #[iv k,iv s,iv a,iv v,iv c] 179)).alloc o)).alloc p);have AW:=aab (((Blk.new w #[iv k,iv s,iv a,iv v,iv c] 179).alloc o).alloc p);have KW:=aab (ag (ag K0.o o) p);have OW:=aab (((HO.o.alloc (.cells #[iv k,iv s,iv a,iv v,iv c] 179)).alloc o).alloc p);obtain ⟨W,hW⟩:∃W:World,W=((w.alloc (.cells #[iv k,iv s,iv a,iv v,iv c] 179)).alloc o).alloc p:=⟨_,rfl⟩
 rw [<-hW] at BW AW KW OW ⊢;have hsz:w.heap.size<W.heap.size:=AW.o.lt;clear hW l0 l1;have z0:=BW.o.cell (kH HX.o);have a0:=AW.o.all;have y0:∀o,(W.alloc o).cell? (aac b 526)=some (.slice (some (aac g2 0)) m cu):=fun o=>(BW.o.alloc o).cell (kH HX.o);have H63:Hid (m+1<=maxLen):=aab (by unfold maxLen;omega);have HBY:Hid ((m+1)*40<=140737488355328):=aab (by omega);go_region_law ((refine step_append_lies _ (by rfl) _ _ _ (by rfl) base 179 i _ 5 40 underlying36 hi0 hz0 hz1 hz2 rfl (by omega) (.slice (some (aac g2 0)) m cu) m (ys.map (Value.int .i64)) (by rfl) ((OW.o.alloc _).drew) (aac W.heap.size 0) 1 1 [iv k,iv s,iv a,iv v,iv c] (by rfl) (by rfl) (World.news_of_block (cs:=#[iv k,iv s,iv a,iv v,iv c]) (t:=179) (fr:=(0,0)) (heap_alloc_new W _)) (by simp [Value.oneCell']) (by omega) H63.o HBY.o (by simp;omega) (W.heap.size+1) (by simp) ?_;intro g3 c3 w1 hown1 hgrow hat hlt;have B1:Hid (Blk w1 b (cor R xs (.slice (some (aac g2 0)) m cu) ST HA) HA.t.y):=aab ((hgrow.block b (by have:=BW.o.lt;simp;omega) (by simp [Value.ownBlock];omega)).trans (BW.o.alloc _));have e0:=B1.o.cell (kH HX.o);have e1:=B1.o.frozen 526;have G1:=aab hgrow;have O1:=aab hown1;clear hgrow hown1))
 all_goals
  go_end0;have lb:=HB.o.lt;have lB:=BW.o.lt;obtain ⟨l1,l2⟩:=HO.o.lt g2 rfl
  have hat':g2=g3∨g3=W.heap.size+1:=by
   rcases hat with h|h
   ·exact .inl (Option.some.inj h)
   ·exact .inr h
  have hb3:b≠g3:=by omega
  refine ⟨g3,c3,rfl,B1.o.VS HX.o _,?_,hb3,?_⟩
  ·have h:=O1.o.kept (grownBy_set w1 b 526 (.slice (some (aac g3 0)) (m+1) c3)) (.inr (fun e=>by have h2:g3=b:=Option.some.inj e;omega));rw [List.map_append];exact h
  ·have k1:Kept 0 0 w (W.alloc (.cells #[iv k,iv s,iv a,iv v,iv c] 179)).drew:=ah (ag KW.o _);exact ⟨by omega,((jV k1 (by omega)).grown G1.o (fun x hx=>.inr (Option.some.inj hx).symm)).set b 526 _ (.inl (.inl (by omega)))⟩
theorem Gw (w:World) {R:Rg} {ST:Bool} {HA:Hl} (b q base g2:Nat) (xs ys:List Int) (m cu:Nat) (k s a v c:Int) (hB:Blk w b (cor R xs (.slice (some (aac g2 0)) m cu) ST HA) HA.t.y) (hQ:Blk w q #[iv k,iv s,iv a,iv v,iv c] 179) (lx:xs.length=512) (hby:aZ xs=true)
  (hO:w.ownsRow base 179 5 (.slice (some (aac g2 0)) m cu) m (ys.map (Value.int .i64))) (hb:base<=b) (hq:base<=q) (n1:q≠b) (n2:b≠g2) (n3:q≠g2) (hask:eP k s a v=true) (hc:Pl.code k s a=0) :
  Calls prog 268 #[.pointer (some (aac b 14)),.pointer (some (aac q 0))] w fun e w'=>e=.returned (.tuple #[])∧Blk w' b (cor R (Pl.nb xs k s a v) (.slice (some (aac g2 0)) m cu) ST HA) HA.t.y∧Blk w' q #[iv k,iv s,iv a,iv (Pl.lv xs k s a v),iv c] 179∧
   w'.ownsRow base 179 5 (.slice (some (aac g2 0)) m cu) m (ys.map (Value.int .i64))∧FrP (fun i=>i=b∨i=q) w w':=by
 obtain ⟨hk,hs,v0,⟨a0,a1⟩,hkv⟩:=qF hask;have hlow:=rE hc a0;obtain ⟨n,rfl⟩:∃n:Nat,a=(n:Int):=⟨a.toNat,by omega⟩
 by_cases h2:k=2
 ·subst h2;have e1:Pl.nb xs 2 s n v=Pl.wr xs s n v:=by unfold Pl.nb;rw [if_pos ⟨hc,rfl⟩];rfl
  have e2:Pl.lv xs 2 s n v=v:=by unfold Pl.lv;rw [if_neg (by simp)]
  refine (Aj w b q _ xs s n v c hB hQ lx hs (by omega) v0 n1).mono ?_;rintro e w' ⟨rfl,hb',hk'⟩;have lb:=hB.lt;refine ⟨rfl,by rw [e1];exact hb',by rw [e2];exact hQ.kept hk' (by omega),hO.kept (xX hk') (.inr (fun e=>by have h3:g2=b:=Option.some.inj e;omega)),jV hk' (by omega)⟩
 ·have e1:Pl.nb xs k s n v=xs:=by unfold Pl.nb;rw [if_neg (fun h=>h2 h.2)]
  have e2:Pl.lv xs k s n v=Pl.rd xs s n:=by unfold Pl.lv;rw [if_pos ⟨hc,h2⟩];rfl
  refine (Ak w b q _ xs k s n v c hB hQ lx hby h2 (by omega) (by omega) n1).mono ?_;rintro e w' ⟨rfl,hq',hk'⟩;have lq:=hQ.lt;refine ⟨rfl,by rw [e1];exact hB.kept hk' (by omega),by rw [e2];exact hq',hO.kept (xX hk') (.inr (fun e=>by have h3:g2=q:=Option.some.inj e;omega)),jV hk' (by omega)⟩
theorem RJ (w:World) {R:Rg} {ST:Bool} {HA:Hl} (b base g2:Nat) (xs ys:List Int) (m cu:Nat) (k s a v c:Int) (hB:Blk w b (cor R xs (.slice (some (aac g2 0)) m cu) ST HA) HA.t.y) (lx:xs.length=512) (hO:w.ownsRow base 179 5 (.slice (some (aac g2 0)) m cu) m (ys.map (Value.int .i64))) (hb:base<=b) (hne:b≠g2) (bm:m<=400) (lo : -9223372036854775808<=v) (hi:v<=9223372036854775807)
  (m':Nat) (ys':List Int) (hm:m'=if (decide (m<400)&&fK k s a v c)=true then m+1 else m) (hy:ys'=if (decide (m<400)&&fK k s a v c)=true then ys++[k,s,a,v,c] else ys) :
  Calls prog 269 #[.pointer (some (aac b 14)),.agg #[iv k,iv s,iv a,iv v,iv c]] w fun e w'=>∃g3 c3:Nat,e=.returned (.tuple #[])∧Blk w' b (cor R xs (.slice (some (aac g3 0)) m' c3) ST HA) HA.t.y∧w'.ownsRow base 179 5 (.slice (some (aac g3 0)) m' c3) m' (ys'.map (Value.int .i64))∧b≠g3∧Since w b (b+1) g2 w' g3:=by
 cases h:(decide (m<400)&&fK k s a v c)
 ·rw [hm,hy,h];refine (Gu w b xs _ m cu k s a v c hB lx bm lo hi h).mono ?_;rintro e w' ⟨rfl,k'⟩;exact ⟨g2,cu,rfl,hB.ae k',hO.kept k'.grown (.inr (fun e=>by cases e)),hne,(Since.refl _ _ _ _).any k'⟩
 ·rw [hm,hy,h];simp only [Bool.and_eq_true,decide_eq_true_eq] at h;have lb:=hB.lt;show Calls _ _ _ _ _;exact Gt w b base g2 xs ys m cu k s a v c hB lx hO hb (by omega) hne h.1 lo hi h.2
theorem UE (w:World) {R:Rg} {ST:Bool} {HA:Hl} (b base g2:Nat) (xs ys:List Int) (m cu:Nat) (k s a v:Int) (hB:Blk w b (cor R xs (.slice (some (aac g2 0)) m cu) ST HA) HA.t.y) (lx:xs.length=512) (hby:aZ xs=true)
  (hO:w.ownsRow base 179 5 (.slice (some (aac g2 0)) m cu) m (ys.map (Value.int .i64))) (hb:base<=b) (n2:b≠g2) (bm:m<=400) (hask:eP k s a v=true) (T:Int) (HT:Hid (T=if k=2 then 0 else Pl.lv xs k s a v)) :
  Calls prog 236 #[.pointer (some (aac b 14)),.agg #[iv k,iv s,iv a,iv v,iv 0]] w fun e w'=>∃g3 c3:Nat,e=.returned (.tuple #[iv T,iv (Pl.code k s a)])∧
   Blk w' b (cor R (Pl.nb xs k s a v) (.slice (some (aac g3 0)) (nm m k s a) c3) ST HA) HA.t.y∧w'.ownsRow base 179 5 (.slice (some (aac g3 0)) (nm m k s a) c3) (nm m k s a) ((nl xs ys m k s a v).map (Value.int .i64))∧b≠g3∧Since w b (b+1) g2 w' g3:=by
 obtain ⟨_,hs,v0,⟨a0,a1⟩,hkv⟩:=qF hask;have hs':s=1∨s=2:=by omega
 have hlog:=Nb lx hby hask;have hvb:=Rt lx hby hask;have hv1:Pl.lv xs k s a v<=65535:=by split at hvb<;>omega
 obtain ⟨hg0,hg1⟩:=hO.lt g2 rfl;have lb:=hB.lt;have QU:=aab hlog;have HV:=aab (And.intro hvb.1 hv1);have HX:=aab lx;have HBY:=aab hby
 have wP:=aab hask;have HB0:=aab hB;have HO0:=aab hO;clear hB hO lx hby hask hlog hvb hs hkv;go_enter func236,ntmps236;go_wp2_with fail;refine (codeOf k s a v 0 _ hs' a0 a1).mono ?_;rintro e w1 ⟨rfl,o,rfl⟩;obtain ⟨C,hC⟩:∃C,C=Pl.code k s a:=⟨_,rfl⟩
 rw [<-hC];have HC:=aab hC;clear hC;have BX:=aab ((HB0.o.alloc (.cells #[iv k,iv s,iv a,iv v,iv C] 179)).alloc o);have OX:=aab ((HO0.o.alloc (.cells #[iv k,iv s,iv a,iv v,iv C] 179)).alloc o);have QX:=aab ((Blk.new w #[iv k,iv s,iv a,iv v,iv C] 179).alloc o);have KX:=aab (ag (kept_alloc w (.cells #[iv k,iv s,iv a,iv v,iv C] 179)) o);obtain ⟨X,hX⟩:∃X:World,X=(w.alloc (.cells #[iv k,iv s,iv a,iv v,iv C] 179)).alloc o:=⟨_,rfl⟩
 rw [<-hX] at BX OX QX KX;cases hc:(C==0)
 ·have hc':¬Pl.code k s a=0:=by rw [<-HC.o];simpa using hc
  have e1:Pl.nb xs k s a v=xs:=by unfold Pl.nb;rw [if_neg (fun h=>hc' h.1)]
  have e2:Pl.lv xs k s a v=v:=by unfold Pl.lv;rw [if_neg (fun h=>hc' h.1)]
  have E1:=aab e1;have E2:=aab e2
  have HM:Hid (nm m k s a=if (decide (m<400)&&fK k s a v C)=true then m+1 else m):=aab (by
   have h:=QU.o;rw [e2] at h;rw [HC.o,h];rfl)
  have HY:Hid (nl xs ys m k s a v=if (decide (m<400)&&fK k s a v C)=true then ys++[k,s,a,v,C] else ys):=aab (by
   have h:=QU.o;rw [e2] at h;rw [HC.o,h];unfold nl;rw [e2];rfl)
  clear hc' e1 e2;go_wp2_with fail;rw [<-hX];clear hX;refine (RJ X b base g2 xs ys m cu k s a v C BX.o HX.o OX.o hb n2 bm (by omega) (by have:=HV.o;rw [E2.o] at this;omega) _ _ HM.o HY.o).mono ?_;rintro e w4 ⟨g3,c3,rfl,hb4,ho4,hn4,hk4⟩;have Q4:=hk4.blk QX.o (by omega) (by omega);have B4:=aab hb4;have O4:=aab ho4;have K4:=aab (((Since.refl w b (b+1) g2).any KX.o).trans hk4);have y0:=Q4.all;clear hb4 ho4 hk4 Q4;cases hk2:(k==2)
  ·have E3:Hid (v=T):=aab (by rw [HT.o,if_neg (by simpa using hk2),E2.o]);go_wp2_with fail;go_quiet (fail);go_wp2_with fail;go_ret2;exact ⟨g3,c3,rII E3.o HC.o,by rw [E1.o];exact B4.o,O4.o,hn4,K4.o.any (au (Kept.refl 0 0 _) _)⟩
  ·have E3:Hid (0=T):=aab (by rw [HT.o,if_pos (by simpa using hk2)]);go_wp2_with fail;go_quiet (fail);go_wp2_with fail;go_ret2;exact ⟨g3,c3,rII E3.o HC.o,by rw [E1.o];exact B4.o,O4.o,hn4,K4.o.any (au (Kept.refl 0 0 _) _)⟩
 ·have hc':Pl.code k s a=0:=by rw [<-HC.o];simpa using hc
  have HC0:=aab hc';have HNL:Hid ((Pl.nb xs k s a v).length=512):=aab (by rw [Jl];exact HX.o)
  have HM:Hid (nm m k s a=if (decide (m<400)&&fK k s a (Pl.lv xs k s a v) C)=true then m+1 else m):=aab (by
   have h:=QU.o;rw [HC.o,h];rfl)
  have HY:Hid (nl xs ys m k s a v=if (decide (m<400)&&fK k s a (Pl.lv xs k s a v) C)=true then ys++[k,s,a,Pl.lv xs k s a v,C] else ys):=aab (by
   have h:=QU.o;rw [HC.o,h];unfold nl;rfl)
  clear hc';go_wp2_with fail;rw [<-hX];clear hX;refine (Gw X b w.heap.size base g2 xs ys m cu k s a v C BX.o QX.o HX.o HBY.o OX.o hb (by omega) (by omega) n2 (by omega) wP.o HC0.o).mono ?_;rintro e w3 ⟨rfl,hb3,hq3,ho3,hk3⟩;have B3:=aab hb3;have O3:=aab ho3;have K3:=aab (Fa (g:=g2) KX.o hk3 (Nat.le_refl _));have Q3:=aab hq3;have z0:=hq3.all;clear hb3 ho3 hk3 hq3;go_wp2_with fail;clear z0;refine (RJ w3 b base g2 (Pl.nb xs k s a v) ys m cu k s a (Pl.lv xs k s a v) C B3.o HNL.o O3.o hb n2 bm (by have:=HV.o;omega) (by have:=HV.o;omega) _ _ HM.o HY.o).mono ?_;rintro e w4 ⟨g3,c3,rfl,hb4,ho4,hn4,hk4⟩;have Q4:=hk4.blk Q3.o (by omega) (by omega);have B4:=aab hb4;have O4:=aab ho4;have K4:=aab (K3.o.trans hk4);have y0:=Q4.all;clear hb4 ho4 hk4 Q4;cases hk2:(k==2)
  ·have E3:Hid (Pl.lv xs k s a v=T):=aab (by rw [HT.o,if_neg (by simpa using hk2)]);go_wp2_with fail;go_quiet (fail);go_wp2_with fail;go_ret2;exact ⟨g3,c3,rII E3.o HC.o,B4.o,O4.o,hn4,K4.o.any (au (Kept.refl 0 0 _) _)⟩
  ·have E3:Hid (0=T):=aab (by rw [HT.o,if_pos (by simpa using hk2)]);go_wp2_with fail;go_quiet (fail);go_wp2_with fail;go_ret2;exact ⟨g3,c3,rII E3.o HC.o,B4.o,O4.o,hn4,K4.o.any (au (Kept.refl 0 0 _) _)⟩
theorem Ql (k s a v T:Int) (hC:CAt w lo b g c h) (G:GM c) (hask:eP k s a v=true) (HT:Hid (T=if k=2 then 0 else Pl.lv c.bx k s a v)) :
  Calls prog 236 #[.pointer (some (aac b 14)),.agg #[iv k,iv s,iv a,iv v,iv 0]] w fun e w'=>∃g',e=.returned (.tuple #[iv T,iv (Pl.code k s a)])∧CAt w' lo b g' (c.acc k s a v) h∧Since w b (b+1) g w' g':=by
 obtain ⟨cu,hB,hO⟩:=hC;refine (UE w b lo g c.bx c.bl c.bm cu k s a v hB G.bx G.ok hO.l hO.lo' hO.ne G.bm hask T HT).mono ?_;rintro e w' ⟨g3,c3,he,hb,ho,hn,hk⟩;exact ⟨g3,he,⟨c3,hb,⟨ho,hO.lo',hn⟩⟩,hk⟩
end Go.Proofs.YtgikibaajanjiaaGreatDoor
