/- Part 12 of what the last text leans on. -/
import Derived.Test.YtgikibaajanjiaaGreatDoorJA1
import Derived.Test.YtgikibaajanjiaaGreatDoorJA2
import Derived.Test.YtgikibaajanjiaaGreatDoorJA11
import Derived.Test.YtgikibaajanjiaaGreatDoorJA3
import Derived.Laws.CopyOwn
import Derived.Laws.Rows
import Derived.Laws.Tables
import Derived.Deep.WholeRow
import Derived.Deep.RegionLawGrows
import Derived.Deep.RegionHeld3
import Derived.Deep.MidRow
set_option maxRecDepth 100000
set_option maxHeartbeats 16000000
namespace Go.Proofs.YtgikibaajanjiaaGreatDoor
open Pl
open Go.RowKit Go.Proofs.Tryz
set_option linter.unusedVariables false
theorem GX (w:World) (o pc fl mk:Int) (su tr:Bool) (a b:Option Addr) (ca cb n m:Nat) (left:Int) (hn:n<=9223372036854775807) (hm:m<=9223372036854775807) (l0:0<=left) (l1:left<=2000000) :
  Calls prog 53 #[.agg #[.slice a n ca,.slice b m cb,iv o,iv pc,iv fl,iv mk,.bool su,.bool tr],iv left] w fun e w'=>e=.returned (iv (szB n m left))∧Kept 0 0 w w':=by
 by_cases h:left-(n:Int)<0
 ·have E:Hid (szB n m left = -1):=Zr (by simp [szB,h]);have e1:(if left-(n:Int)<0 then (-1:Int) else left-(n:Int)) = -1:=by simp [h]
  go_enter func53,ntmps53;go_wp2_with fail;refine (nN _ a ca n left hn l0 l1).mono ?_;rintro e w' ⟨rfl,rfl⟩;rw [e1];go_wp2_with fail;go_ret;exact ⟨rI E.o.symm,kept_alloc _ _⟩
 ·have e1:(if left-(n:Int)<0 then (-1:Int) else left-(n:Int))=left-(n:Int):=by simp [h]
  by_cases h2:left-(n:Int)-(m:Int)<0
  ·have E:Hid (szB n m left = -1):=Zr (by simp [szB,h,h2]);have e2:(if left-(n:Int)-(m:Int)<0 then (-1:Int) else left-(n:Int)-(m:Int)) = -1:=by simp [h2]
   go_enter func53,ntmps53;go_wp2_with fail;refine (nN _ a ca n left hn l0 l1).mono ?_;rintro e w' ⟨rfl,rfl⟩;rw [e1];go_wp2_with fail;refine (nN _ b cb m (left-(n:Int)) hm (by omega) (by omega)).mono ?_;rintro e w' ⟨rfl,rfl⟩;rw [e2];go_wp2_with fail;go_ret;exact ⟨rI E.o.symm,kept_alloc _ _⟩
  ·have E:Hid (szB n m left=left-(n:Int)-(m:Int)):=Zr (by simp [szB,h,h2]);have e2:(if left-(n:Int)-(m:Int)<0 then (-1:Int) else left-(n:Int)-(m:Int))=left-(n:Int)-(m:Int):=by simp [h2]
   go_enter func53,ntmps53;go_wp2_with fail;refine (nN _ a ca n left hn l0 l1).mono ?_;rintro e w' ⟨rfl,rfl⟩;rw [e1];go_wp2_with fail;refine (nN _ b cb m (left-(n:Int)) hm (by omega) (by omega)).mono ?_;rintro e w' ⟨rfl,rfl⟩;rw [e2];go_wp2_with fail;go_ret;exact ⟨rI E.o.symm,kept_alloc _ _⟩
theorem TI (w:World) (o pc fl mk:Int) (su tr:Bool) (a b c d:Option Addr) (ca cb cc cd:Nat) (xs ys:List Int) (ha:aG w a xs) (hb:aG w b ys) (hc:aG w c xs) (hd:aG w d ys) (lx:xs.length<=2000000) (ly:ys.length<=2000000) :
  Calls prog 68 #[.agg #[.slice a xs.length ca,.slice b ys.length cb,iv o,iv pc,iv fl,iv mk,.bool su,.bool tr],.agg #[.slice c xs.length cc,.slice d ys.length cd,iv o,iv pc,iv fl,iv mk,.bool su,.bool tr]] w fun e w'=>e=.returned (.bool true)∧Kept 0 0 w w':=by
 have HK0:=Zr (ag (kept_alloc w (.cells #[.slice a xs.length ca,.slice b ys.length cb,iv o,iv pc,iv fl,iv mk,.bool su,.bool tr] 35)) (.cells #[.slice c xs.length cc,.slice d ys.length cd,iv o,iv pc,iv fl,iv mk,.bool su,.bool tr] 35));have HA:=Zr ha;have HB:=Zr hb;have HC:=Zr hc;have HD:=Zr hd;have B0:=Zr ((Blk.new w #[.slice a xs.length ca,.slice b ys.length cb,iv o,iv pc,iv fl,iv mk,.bool su,.bool tr] 35).alloc (.cells #[.slice c xs.length cc,.slice d ys.length cd,iv o,iv pc,iv fl,iv mk,.bool su,.bool tr] 35));have B1:=Blk.new (w.alloc (.cells #[.slice a xs.length ca,.slice b ys.length cb,iv o,iv pc,iv fl,iv mk,.bool su,.bool tr] 35)) #[.slice c xs.length cc,.slice d ys.length cd,iv o,iv pc,iv fl,iv mk,.bool su,.bool tr] 35;simp only [World.size_alloc] at B1;replace B1:=Zr B1;clear ha hb hc hd;go_enter func68,ntmps68;go_wp2_with fail;refine (xO _ a c ca cc xs xs (HA.o.ai HK0.o) (HC.o.ai HK0.o) lx lx).mono ?_;rintro e w1 ⟨rfl,g1⟩;rw [show decide (xs=xs)=true from by simp];have k1:=aX g1;have C0:=Zr (B0.o.ae k1);have C1:=Zr (B1.o.ae k1);have c1:=C0.o.cell (i:=1) rfl;have d1:=C1.o.cell (i:=1) rfl;have HK1:=Zr (HK0.o.trans k1);clear g1 k1;go_wp2_with fail;refine (xO _ b d cb cd ys ys (HB.o.ai HK1.o) (HD.o.ai HK1.o) ly ly).mono ?_;rintro e w2 ⟨rfl,g2⟩;rw [show decide (ys=ys)=true from by simp];have k2:=aX g2;have q2:=(C0.o.ae k2).all;have r2:=(C1.o.ae k2).all;have HK2:=Zr (HK1.o.trans k2);clear g2 k2;go_wp2_with fail;go_ret;exact ⟨rfl,HK2.o⟩
theorem JE (w:World) (o pc fl mk:Int) (su tr:Bool) (a b:Option Addr) (ca cb n m:Nat) (q:Int) (ha:aG w a (marks q n)) (hb:aG w b (marks (q+(n:Int)) m)) (lx:n<=2000000) (ly:m<=2000000) (q0:0<=q) (q1:q<=1000000) :
  Calls prog 72 #[.agg #[.slice a n ca,.slice b m cb,iv o,iv pc,iv fl,iv mk,.bool su,.bool tr],iv q] w fun e w'=>e=.returned (iv (q+(n:Int)+(m:Int)))∧Kept 0 0 w w':=by
 have k0:=kept_alloc w (.cells #[.slice a n ca,.slice b m cb,iv o,iv pc,iv fl,iv mk,.bool su,.bool tr] 35);have HK0:=Zr k0;have HA:=Zr ha;have HB:=Zr hb;clear k0 ha hb;go_enter func72,ntmps72;go_wp2_with fail;refine (uV _ a ca n q (HA.o.ai HK0.o) lx q0 (by omega)).mono ?_;rintro e w1 ⟨rfl,g1⟩;have k1:=aX g1;have B0:=(Blk.new w #[.slice a n ca,.slice b m cb,iv o,iv pc,iv fl,iv mk,.bool su,.bool tr] 35).ae k1;have c1:=B0.cell (i:=1) rfl;have HK1:=Zr (HK0.o.trans k1);clear g1 k1 B0;go_wp2_with fail;refine (uV _ b cb m (q+(n:Int)) (HB.o.ai HK1.o) ly (by omega) (by omega)).mono ?_;rintro e w2 ⟨rfl,g2⟩;have HK2:=Zr (HK1.o.trans (aX g2));clear g2;go_wp2_with fail;go_ret;exact ⟨rfl,HK2.o⟩
theorem Ri (w:World) (o pc fl mk:Int) (su tr:Bool) (a b:Option Addr) (ca cb:Nat) (xs ys:List Int) (ha:aG w a xs) (hb:aG w b ys) (lx:xs.length<=2000000) (ly:ys.length<=2000000) :
  Calls prog 59 #[.agg #[.slice a xs.length ca,.slice b ys.length cb,iv o,iv pc,iv fl,iv mk,.bool su,.bool tr]] w fun e' w'=>∃g1 g2:Nat,e'=.returned (.agg #[.slice (some (Zt g1 0)) xs.length xs.length,.slice (some (Zt g2 0)) ys.length ys.length,iv o,iv pc,iv fl,iv mk,.bool su,.bool tr])∧Own w' g1 xs∧Own w' g2 ys∧w.heap.size<=g1∧g1<g2∧g2<w'.heap.size∧Kept 0 0 w w':=by
 have HA:=Zr ha;have HB:=Zr hb;clear ha hb;go_enter func59,ntmps59;go_wp2_with fail;have k0:Kept 0 0 w (((w.alloc (.cells #[.slice a xs.length ca,.slice b ys.length cb,iv o,iv pc,iv fl,iv mk,.bool su,.bool tr] 24)).alloc (.cells #[.slice none 0 0,.slice none 0 0,iv 0,iv 0,iv 0,iv 0,.bool false,.bool false] 35)).alloc (.cells #[.slice none 0 0,.slice none 0 0,iv 0,iv 0,iv 0,iv 0,.bool false,.bool false] 35)):=ag (ag (kept_alloc _ _) _) _;have B0:=((Blk.new w #[.slice a xs.length ca,.slice b ys.length cb,iv o,iv pc,iv fl,iv mk,.bool su,.bool tr] 24).alloc (.cells #[.slice none 0 0,.slice none 0 0,iv 0,iv 0,iv 0,iv 0,.bool false,.bool false] 35)).alloc (.cells #[.slice none 0 0,.slice none 0 0,iv 0,iv 0,iv 0,iv 0,.bool false,.bool false] 35);have B1:=(Blk.new (w.alloc (.cells #[.slice a xs.length ca,.slice b ys.length cb,iv o,iv pc,iv fl,iv mk,.bool su,.bool tr] 24)) #[.slice none 0 0,.slice none 0 0,iv 0,iv 0,iv 0,iv 0,.bool false,.bool false] 35).alloc (.cells #[.slice none 0 0,.slice none 0 0,iv 0,iv 0,iv 0,iv 0,.bool false,.bool false] 35);have B2:=Blk.new ((w.alloc (.cells #[.slice a xs.length ca,.slice b ys.length cb,iv o,iv pc,iv fl,iv mk,.bool su,.bool tr] 24)).alloc (.cells #[.slice none 0 0,.slice none 0 0,iv 0,iv 0,iv 0,iv 0,.bool false,.bool false] 35)) #[.slice none 0 0,.slice none 0 0,iv 0,iv 0,iv 0,iv 0,.bool false,.bool false] 35;simp only [World.size_alloc] at B1 B2;obtain ⟨W,hW⟩:∃W:World,W=(((w.alloc (.cells #[.slice a xs.length ca,.slice b ys.length cb,iv o,iv pc,iv fl,iv mk,.bool su,.bool tr] 24)).alloc (.cells #[.slice none 0 0,.slice none 0 0,iv 0,iv 0,iv 0,iv 0,.bool false,.bool false] 35)).alloc (.cells #[.slice none 0 0,.slice none 0 0,iv 0,iv 0,iv 0,iv 0,.bool false,.bool false] 35)):=⟨_,rfl⟩
 rw [<-hW] at k0 B0 B1 B2 ⊢;clear hW;have n0:=B2.lt;refine (Ar _ a ca xs (HA.o.ai k0) lx).mono ?_;rintro e' w1 ⟨rfl,o1,z1,g1⟩;have k1:=aX g1;have C0:=B0.ae k1;have C1:=Zr (B1.ae k1);have C2:=B2.ae k1;have d3:=C2.cell (i:=0) rfl;have f3:=C2.frozen 0;have D2:=Zr (C2.set 0 (.slice (some (Zt W.heap.size 0)) xs.length xs.length));have D1:=Zr (C1.o.other (w.heap.size+1+1) 0 (.slice (some (Zt W.heap.size 0)) xs.length xs.length) (by omega));have D0:=Zr (C0.other (w.heap.size+1+1) 0 (.slice (some (Zt W.heap.size 0)) xs.length xs.length) (by omega));have O1:=Zr (o1.setOther (w.heap.size+1+1) 0 (.slice (some (Zt W.heap.size 0)) xs.length xs.length) (by omega));have K1:=Zr (af (k0.trans k1) (w.heap.size+1+1) 0 (.slice (some (Zt W.heap.size 0)) xs.length xs.length) (.inr (by omega)));have Z1:Hid (W.heap.size<(w1.setCell (Zt (w.heap.size+1+1) 0) (.slice (some (Zt W.heap.size 0)) xs.length xs.length)).heap.size):=Zr (by simpa using z1);obtain ⟨X,hX⟩:∃X:World,X=w1.setCell (Zt (w.heap.size+1+1) 0) (.slice (some (Zt W.heap.size 0)) xs.length xs.length):=⟨_,rfl⟩
 rw [<-hX] at D2 D1 D0 O1 K1 Z1;have x4:=D0.o.cell (i:=1) rfl;rw [hX] at x4;have cc1:=C0.all;clear B0 B1 B2 C0 C1 C2 o1 z1 g1 k0 k1;go_wp2_with fail;rw [<-hX];clear hX x4 d3 f3 cc1;refine (Ar _ b cb ys (HB.o.ai K1.o) ly).mono ?_;rintro e' w2 ⟨rfl,o2,z2,g2⟩;have k2:=aX g2;have E0:=D0.o.ae k2;have E1:=D1.o.ae k2;have E2:=D2.o.ae k2;have zz:=Z1.o;have O1:=Zr (O1.o.ai k2 (by omega));have O2:=Zr o2;have K2:=Zr (K1.o.trans k2);have e2:=E0.all;have a0:=E2.all;have u1:=E2.fz;have b0:=E1.all;have v0:=E1.fz;have E1:=Zr E1;clear E0 E2 o2 g2 k2;go_wp2_with fail;refine bodyPost_ret (v:=.agg #[.slice (some (Zt W.heap.size 0)) xs.length xs.length,.slice (some (Zt X.heap.size 0)) ys.length ys.length,iv o,iv pc,iv fl,iv mk,.bool su,.bool tr]) ?_ rfl ⟨W.heap.size,X.heap.size,rfl,?_,?_,by omega,zz,?_,?_⟩
 ·exact results_cell_row rfl _ _ _ _ _ (0,0) _ rfl (((((((((((((((E1.o.other _ _ _ (by omega)).other _ _ _ (by omega)).other _ _ _ (by omega)).other _ _ _ (by omega)).other _ _ _ (by omega)).other _ _ _ (by omega)).other _ _ _ (by omega)).set _ _).set _ _).set _ _).set _ _).set _ _).set _ _).set _ _).set _ _) underlying35 rfl (by kernel_rfl)
 ·exact (((((((((((((((O1.o.setOther _ _ _ (by omega)).setOther _ _ _ (by omega)).setOther _ _ _ (by omega)).setOther _ _ _ (by omega)).setOther _ _ _ (by omega)).setOther _ _ _ (by omega)).setOther _ _ _ (by omega)).setOther _ _ _ (by omega)).setOther _ _ _ (by omega)).setOther _ _ _ (by omega)).setOther _ _ _ (by omega)).setOther _ _ _ (by omega)).setOther _ _ _ (by omega)).setOther _ _ _ (by omega)).setOther _ _ _ (by omega))
 ·exact (((((((((((((((O2.o.setOther _ _ _ (by omega)).setOther _ _ _ (by omega)).setOther _ _ _ (by omega)).setOther _ _ _ (by omega)).setOther _ _ _ (by omega)).setOther _ _ _ (by omega)).setOther _ _ _ (by omega)).setOther _ _ _ (by omega)).setOther _ _ _ (by omega)).setOther _ _ _ (by omega)).setOther _ _ _ (by omega)).setOther _ _ _ (by omega)).setOther _ _ _ (by omega)).setOther _ _ _ (by omega)).setOther _ _ _ (by omega))
 ·simpa using z2
 ·exact (af (af (af (af (af (af (af (af (af (af (af (af (af (af (af K2.o _ _ _ (.inr (by omega))) _ _ _ (.inr (by omega))) _ _ _ (.inr (by omega))) _ _ _ (.inr (by omega))) _ _ _ (.inr (by omega))) _ _ _ (.inr (by omega))) _ _ _ (.inr (by omega))) _ _ _ (.inr (by omega))) _ _ _ (.inr (by omega))) _ _ _ (.inr (by omega))) _ _ _ (.inr (by omega))) _ _ _ (.inr (by omega))) _ _ _ (.inr (by omega))) _ _ _ (.inr (by omega))) _ _ _ (.inr (by omega)))
structure Ac (p q:Option Nat) (w w':World):Prop where
 os:w'.os=w.os
 tape:w'.tape=w.tape
 output:w'.output=w.output
 size:w.heap.size<=w'.heap.size
 block:∀k,k<w.heap.size->some k≠p->some k≠q->w'.heap[k]? = w.heap[k]?
theorem QI {p q:Option Nat} {w X w1 w2:World} (k:Kept 0 0 w X) (g1:X.grownBy w1 p) (g2:w1.grownBy w2 q):Ac p q w w2:=
 ⟨(g2.os.trans g1.os).trans k.os,(g2.tape.trans g1.tape).trans k.tape,(g2.output.trans g1.output).trans k.output,Nat.le_trans k.size (Nat.le_trans g1.size g2.size),fun i hi h1 h2=>
  (g2.block i (Nat.lt_of_lt_of_le (Nat.lt_of_lt_of_le hi k.size) g1.size) h2).trans ((g1.block i (Nat.lt_of_lt_of_le hi k.size) h1).trans (k.block i hi (by omega)))⟩
theorem Own.wG {w w':World} {g:Nat} {xs:List Int} {p q:Option Nat} (h:Own w g xs) (k:Ac p q w w') (h1:some g≠p) (h2:some g≠q):Own w' g xs:=by
 intro i hi;obtain ⟨hc,hf⟩:=h i hi;have e:=k.block g (World.block_lt_of_cell? _ _ hc) h1 h2;exact ⟨by rw [World.cell?_of_block (w:=w) e];exact hc,by rw [World.frozen?_of_block (w:=w) e];exact hf⟩
theorem aP.wG {w w':World} {lo hi:Nat} {a:Option Addr} {xs:List Int} {p q:Option Nat} (h:aP w lo hi a xs) (k:Ac p q w w') (h1:∀g,blk a=some g->some g≠p) (h2:∀g,blk a=some g->some g≠q):aP w' lo hi a xs:=by
 rcases h with h|⟨g,ea,b0,b1,ho⟩
 ·exact .inl h
 ·exact .inr ⟨g,ea,b0,b1,ho.wG k (h1 g (by rw [ea];rfl)) (h2 g (by rw [ea];rfl))⟩
theorem EK (w:World) (lo hi:Nat) (o pc fl mk:Int) (su tr:Bool) (a b:Option Addr) (ca cb:Nat) (xs ys:List Int) (q:Int) (ha:aP w lo hi a xs) (hb:aP w lo hi b ys) (hab:∀g,blk a=some g->blk b≠some g) (hh:hi<=w.heap.size) (lx:xs.length<=2000000) (ly:ys.length<=2000000) (q0:0<=q) (q1:q<=10000000) :
  Calls prog 70 #[.agg #[.slice a xs.length ca,.slice b ys.length cb,iv o,iv pc,iv fl,iv mk,.bool su,.bool tr],iv q] w fun e w'=>e=.returned (iv (q+(xs.length:Int)+(ys.length:Int)))∧aP w' lo hi a (marks q xs.length)∧aP w' lo hi b (marks (q+(xs.length:Int)) ys.length)∧Kept lo hi w w'∧Ac (blk a) (blk b) w w':=by
 have HA:=Zr ha;have HB:=Zr hb;have HAB:=Zr hab;clear ha hb hab;go_enter func70,ntmps70;go_wp2_with fail;have k0:=kept_alloc w (.cells #[.slice a xs.length ca,.slice b ys.length cb,iv o,iv pc,iv fl,iv mk,.bool su,.bool tr] 35);have s0:=HA.o.kept k0 (by omega);have t0:=HB.o.kept k0 (by omega);refine (uM _ lo ca a xs q (s0.slot (by simp;omega)) lx q0 (by omega)).mono ?_;rintro e w1 ⟨rfl,s1,g1⟩;have k1:=kK g1 s0.yg;have s1':=s0.again s1;have B0:=(Blk.new w #[.slice a xs.length ca,.slice b ys.length cb,iv o,iv pc,iv fl,iv mk,.bool su,.bool tr] 35).kept k1 (by omega);have c1:=B0.cell (i:=1) rfl
 have t1:aP w1 lo hi b ys:=by
  rcases t0 with t|⟨g,eb,b0,b1,ho⟩
  ·exact .inl t
  ·refine .inr ⟨g,eb,b0,b1,ho.kept g1 ?_⟩;intro e;exact HAB.o g e.symm (by rw [eb];rfl)
 have HG1:=Zr g1;have HK0:=Zr k0;have HK1:=Zr ((k0.any (lo:=lo) (hi:=hi)).trans k1);have HS1:=Zr s1';have HT1:=Zr t1;clear k0 s0 t0 s1 g1 k1 s1' t1 B0;go_wp2_with fail;refine (uM _ lo cb b ys (q+(xs.length:Int)) (HT1.o.slot (Nat.le_trans hh HK1.o.size)) ly (by omega) (by omega)).mono ?_;rintro e w2 ⟨rfl,s2,g2⟩;have k2:=kK g2 HT1.o.yg
 have HS2:Hid (aP w2 lo hi a (marks q xs.length)):=Zr (by
  rcases HS1.o with t|⟨g,ea,b0,b1,ho⟩
  ·exact .inl t
  ·refine .inr ⟨g,ea,b0,b1,ho.kept g2 ?_⟩;intro e
   exact HAB.o g (by rw [ea];rfl) e.symm)
 have HT2:=Zr (HT1.o.again s2);have HK2:=Zr (HK1.o.trans k2);have HB2:=Zr (QI HK0.o HG1.o g2);clear s2 g2 k2;go_wp2_with fail;go_ret;exact ⟨rfl,HS2.o,HT2.o,HK2.o,HB2.o⟩
theorem IU (w:World) (lo hi:Nat) (a b:Option Addr) (ca cb m:Nat) (xs ys:List Int) (q:Int) (ha:aP w lo hi a xs) (hb:aP w lo hi b ys) (hab:∀g,blk a=some g->blk b≠some g) (hh:hi<=w.heap.size) (lx:xs.length<=2000000) (ly:ys.length=5*m) (bm:m<=2000000) (q0:0<=q) (q1:q<=10000000) :
  Calls prog 71 #[.agg #[.slice a xs.length ca,.slice b m cb],iv q] w fun e w'=>e=.returned (iv (q+(xs.length:Int)+5*(m:Int)))∧aP w' lo hi a (marks q xs.length)∧aP w' lo hi b (marks (q+(xs.length:Int)) (5*m))∧Kept lo hi w w'∧Ac (blk a) (blk b) w w':=by
 have HY:=Zr ly;have HA:=Zr ha;have HB:=Zr hb;have HAB:=Zr hab;clear ly ha hb hab;go_enter func71,ntmps71;go_wp2_with fail;have k0:=kept_alloc w (.cells #[.slice a xs.length ca,.slice b m cb] 38);have s0:=HA.o.kept k0 (by omega);have t0:=HB.o.kept k0 (by omega);refine (uM _ lo ca a xs q (s0.slot (by simp;omega)) lx q0 (by omega)).mono ?_;rintro e w1 ⟨rfl,s1,g1⟩;have k1:=kK g1 s0.yg;have s1':=s0.again s1;have B0:=(Blk.new w #[.slice a xs.length ca,.slice b m cb] 38).kept k1 (by omega);have c1:=B0.cell (i:=1) rfl
 have t1:aP w1 lo hi b ys:=by
  rcases t0 with t|⟨g,eb,b0,b1,ho⟩
  ·exact .inl t
  ·refine .inr ⟨g,eb,b0,b1,ho.kept g1 ?_⟩;intro e;exact HAB.o g e.symm (by rw [eb];rfl)
 have HG1:=Zr g1;have HK0:=Zr k0;have HK1:=Zr ((k0.any (lo:=lo) (hi:=hi)).trans k1);have HS1:=Zr s1';have HT1:=Zr t1;clear k0 s0 t0 s1 g1 k1 s1' t1 B0;go_wp2_with fail;refine (EJ _ lo cb m b ys (q+(xs.length:Int)) (HT1.o.slot (Nat.le_trans hh HK1.o.size)) HY.o bm (by omega) (by omega)).mono ?_;rintro e w2 ⟨rfl,s2,g2⟩;have k2:=kK g2 HT1.o.yg
 have HS2:Hid (aP w2 lo hi a (marks q xs.length)):=Zr (by
  rcases HS1.o with t|⟨g,ea,b0,b1,ho⟩
  ·exact .inl t
  ·refine .inr ⟨g,ea,b0,b1,ho.kept g2 ?_⟩;intro e
   exact HAB.o g (by rw [ea];rfl) e.symm)
 have HT2:=Zr (HT1.o.again s2);have HK2:=Zr (HK1.o.trans k2);have HB2:=Zr (QI HK0.o HG1.o g2);clear s2 g2 k2;go_wp2_with fail;go_ret;exact ⟨rfl,HS2.o,HT2.o,HK2.o,HB2.o⟩
structure BQ (w:World) (lo hi:Nat) (c:Cp) (a b e q:Option Addr):Prop where
 d:aP w lo hi a c.r.xs
 a':aP w lo hi b c.r.ys
 b':aP w lo hi e c.bx
 l:aP w lo hi q c.bl
 n1:∀g,blk a=some g->blk b≠some g
 n2:∀g,blk a=some g->blk e≠some g
 n3:∀g,blk a=some g->blk q≠some g
 n4:∀g,blk b=some g->blk e≠some g
 n5:∀g,blk b=some g->blk q≠some g
 n6:∀g,blk e=some g->blk q≠some g
theorem BQ.kept {w w':World} {l h lo hi:Nat} {c:Cp} {a b e q:Option Addr} (s:BQ w l h c a b e q) (k:Kept lo hi w w') (hd:h<=lo∨hi<=l∨hi<=lo):BQ w' l h c a b e q:=
 ⟨s.d.kept k hd,s.a'.kept k hd,s.b'.kept k hd,s.l.kept k hd,s.n1,s.n2,s.n3,s.n4,s.n5,s.n6⟩
def szC (n m k j:Nat) (left:Int):Int:=if szB n m left<0 then -1 else szB k j (szB n m left)
theorem Nh {n m k j:Nat} {left:Int} (h:¬szC n m k j left<0):(n:Int)+(m:Int)+(k:Int)+(j:Int)<=left:=by
 unfold szC at h;split at h
 ·exact absurd (by decide) h
 ·rename_i h1;have a1:=Cf h1;have a2:=Cf h;unfold szB at a2;split at a2
  ·omega
  ·split at a2<;>omega
theorem Rn {n m:Nat} {left:Int} (h:¬szB n m left<0):0<=szB n m left∧szB n m left<=left:=by
 unfold szB at h ⊢;split
 ·rename_i h1;rw [if_pos h1] at h;exact absurd (by decide) h
 ·rename_i h1;rw [if_neg h1] at h;split
  ·rename_i h2;rw [if_pos h2] at h;exact absurd (by decide) h
  ·omega
theorem wu {n m:Nat} {left:Int} (h:szB n m left<0):szB n m left = -1:=by
 unfold szB at h ⊢;split
 ·rfl
 ·rename_i h1;rw [if_neg h1] at h;split
  ·rfl
  ·rename_i h2;rw [if_neg h2] at h;omega
theorem Qr (w:World) (c:Cp) (a b e q:Option Addr) (ca cb ce cq:Nat) (left:Int) (lx:c.r.xs.length<=9223372036854775807) (ly:c.r.ys.length<=9223372036854775807) (lb:c.bx.length<=9223372036854775807) (lm:c.bm<=9223372036854775807) (l0:0<=left) (l1:left<=2000000) :
  Calls prog 12 #[.agg (cpA c a b e q ca cb ce cq),iv left] w fun r w'=>r=.returned (iv (szC c.r.xs.length c.r.ys.length c.bx.length c.bm left))∧Kept 0 0 w w':=by
 have K0:=Zr (kept_alloc w (.cells (cpA c a b e q ca cb ce cq) 29));have B0:=Zr (Blk.new w (cpA c a b e q ca cb ce cq) 29);by_cases h:szB c.r.xs.length c.r.ys.length left<0
 ·have E:Hid (szC c.r.xs.length c.r.ys.length c.bx.length c.bm left = -1):=Zr (by simp [szC,h]);have e1:=wu h;go_enter func12,ntmps12;go_wp2_with fail;refine (GX _ _ _ _ _ _ _ _ _ _ _ _ _ left lx ly l0 l1).mono ?_;rintro e9 w1 ⟨rfl,k⟩;rw [e1];have HK:=Zr (K0.o.trans k);clear k;go_wp2_with fail;go_ret;exact ⟨rI E.o.symm,HK.o⟩
 ·obtain ⟨s0,s1⟩:=Rn h;have E:Hid (szC c.r.xs.length c.r.ys.length c.bx.length c.bm left=szB c.bx.length c.bm (szB c.r.xs.length c.r.ys.length left)):=Zr (by simp [szC,h]);revert h s0 s1 E;generalize hS:szB c.r.xs.length c.r.ys.length left=S;have HS:=Zr hS;clear hS;intro h s0 s1 E;by_cases h2:szB c.bx.length c.bm S<0
  all_goals
   have E2:=Zr (fun q=>@wu c.bx.length c.bm S q);go_enter func12,ntmps12;go_wp2_with fail;refine (GX _ _ _ _ _ _ _ _ _ _ _ _ _ left lx ly l0 l1).mono ?_;rintro e9 w1 ⟨rfl,k⟩;rw [HS.o];have HK:=Zr (K0.o.trans k);have B1:=Zr (B0.o.ae k);clear k;have i8:=B1.o.cell (i:=8) rfl;have i9:=B1.o.cell (i:=9) rfl;go_wp2_with fail;refine (Vb _ _ _ _ _ _ _ S lb lm s0 (by omega)).mono ?_;rintro e9 w2 ⟨rfl,k⟩;have HK2:=Zr (HK.o.trans k);clear k i8 i9;go_wp2_with fail;go_ret
   first
    | exact ⟨rI E.o.symm,HK2.o⟩
    | exact ⟨rI (by rw [E.o,E2.o h2]),HK2.o⟩
theorem DC (w:World) (c:Cp) (a b e q a2 b2 e2 q2:Option Addr) (ca cb ce cq ca2 cb2 ce2 cq2:Nat) (ha:aG w a c.r.xs) (hb:aG w b c.r.ys) (he:aG w e c.bx) (hq:aG w q c.bl) (ha2:aG w a2 c.r.xs) (hb2:aG w b2 c.r.ys) (he2:aG w e2 c.bx) (hq2:aG w q2 c.bl) (lx:c.r.xs.length<=2000000) (ly:c.r.ys.length<=2000000) (lb:c.bx.length<=2000000) (ll:c.bl.length=5*c.bm) (lm:c.bm<=2000000) :
  Calls prog 17 #[.agg (cpA c a b e q ca cb ce cq),.agg (cpA c a2 b2 e2 q2 ca2 cb2 ce2 cq2)] w fun r w'=>r=.returned (.bool true)∧Kept 0 0 w w':=by
 have K0:=Zr (ag (kept_alloc w (.cells (cpA c a b e q ca cb ce cq) 40)) (.cells (cpA c a2 b2 e2 q2 ca2 cb2 ce2 cq2) 40));have B0:=(Blk.new w (cpA c a b e q ca cb ce cq) 40).alloc (.cells (cpA c a2 b2 e2 q2 ca2 cb2 ce2 cq2) 40);have B1:=Blk.new (w.alloc (.cells (cpA c a b e q ca cb ce cq) 40)) (cpA c a2 b2 e2 q2 ca2 cb2 ce2 cq2) 40;simp only [World.size_alloc] at B1;obtain ⟨X,hX⟩:∃X:World,(w.alloc (.cells (cpA c a b e q ca cb ce cq) 40)).alloc (.cells (cpA c a2 b2 e2 q2 ca2 cb2 ce2 cq2) 40)=X:=⟨_,rfl⟩
 rw [hX] at K0 B0 B1;have HB0:=Zr B0;have HB1:=Zr B1;have i0:=B0.all;have j0:=B1.all;have HL:=Zr ll;have HE:=Zr (he.ai K0.o);have HQ:=Zr (hq.ai K0.o);have HE2:=Zr (he2.ai K0.o);have HQ2:=Zr (hq2.ai K0.o);have HA:=Zr (ha.ai K0.o);have HB:=Zr (hb.ai K0.o);have HA2:=Zr (ha2.ai K0.o);have Y4:=Zr (hb2.ai K0.o);clear B0 B1 ll ha hb he hq ha2 hb2 he2 hq2;go_enter func17,ntmps17;go_wp2_with fail;refine (TI _ c.r.o c.r.p c.r.f c.r.m c.r.s c.r.t a b a2 b2 ca cb ca2 cb2 c.r.xs c.r.ys HA.o HB.o HA2.o Y4.o lx ly).mono ?_;rintro e9 w1 ⟨rfl,k⟩;have K1:=Zr (K0.o.trans k);have C0:=Zr (HB0.o.ae k);have C1:=Zr (HB1.o.ae k);have HE':=Zr (HE.o.ai k);have HQ':=Zr (HQ.o.ai k);have HE2':=Zr (HE2.o.ai k);have HQ2':=Zr (HQ2.o.ai k);clear k i0 j0;have i8:=C0.o.all;have j8:=C1.o.all;go_wp2_with fail;refine (Wi _ e q e2 q2 ce cq ce2 cq2 c.bm c.bm c.bx c.bl c.bx c.bl HE'.o HQ'.o HE2'.o HQ2'.o lb lb HL.o HL.o lm lm).mono ?_;rintro e9 w2 ⟨rfl,k⟩;rw [show (decide (c.bx=c.bx)&&decide (c.bl=c.bl))=true from by simp];have K2:=Zr (K1.o.trans k);have D0:=Zr (C0.o.ae k);have D1:=Zr (C1.o.ae k);clear k;have i10:=D0.o.cell (i:=10) rfl;have i11:=D0.o.cell (i:=11) rfl;have j10:=D1.o.cell (i:=10) rfl;have j11:=D1.o.cell (i:=11) rfl;go_wp2_with fail;go_ret;exact ⟨rfl,K2.o⟩
def Pl.mkC (c:Cp) (k:Int):Cp:={c with r:={c.r with xs:=marks k c.r.xs.length,ys:=marks (k+(c.r.xs.length:Int)) c.r.ys.length},bx:=marks (k+(c.r.xs.length:Int)+(c.r.ys.length:Int)) c.bx.length,bl:=marks (k+(c.r.xs.length:Int)+(c.r.ys.length:Int)+(c.bx.length:Int)) (5*c.bm)}
def Pl.mkN (c:Cp) (k:Int):Int:=k+(c.r.xs.length:Int)+(c.r.ys.length:Int)+(c.bx.length:Int)+5*(c.bm:Int)
theorem Dq (w:World) (c:Cp) (a b e q:Option Addr) (ca cb ce cq:Nat) (ha:aG w a (mkC c 1).r.xs) (hb:aG w b (mkC c 1).r.ys) (he:aG w e (mkC c 1).bx) (hq:aG w q (mkC c 1).bl) (lx:c.r.xs.length<=400000) (ly:c.r.ys.length<=400000) (lb:c.bx.length<=2000000) (lm:c.bm<=2000000) :
  Calls prog 20 #[.agg (cpA c a b e q ca cb ce cq),iv 1] w fun r w'=>r=.returned (iv (mkN c 1))∧Kept 0 0 w w':=by
 have E:Hid (mkN c 1=1+(c.r.xs.length:Int)+(c.r.ys.length:Int)+(c.bx.length:Int)+5*(c.bm:Int)):=Zr rfl;have K0:=Zr (kept_alloc w (.cells (cpA c a b e q ca cb ce cq) 40));have B0:=Blk.new w (cpA c a b e q ca cb ce cq) 40;have HA:=Zr (ha.ai K0.o);have HB:=Zr (hb.ai K0.o);have HE:=Zr (he.ai K0.o);have HQ:=Zr (hq.ai K0.o);obtain ⟨X,hX⟩:∃X:World,w.alloc (.cells (cpA c a b e q ca cb ce cq) 40)=X:=⟨_,rfl⟩
 rw [hX] at K0 B0 HA HB HE HQ;have HB0:=Zr B0;have i0:=B0.all;clear B0 ha hb he hq;go_enter func20,ntmps20;go_wp2_with fail;refine (JE _ c.r.o c.r.p c.r.f c.r.m c.r.s c.r.t a b ca cb c.r.xs.length c.r.ys.length 1 HA.o HB.o (by omega) (by omega) (by decide) (by decide)).mono ?_;rintro e9 w1 ⟨rfl,k⟩;have K1:=Zr (K0.o.trans k);have C0:=Zr (HB0.o.ae k);have HE':=Zr (HE.o.ai k);have HQ':=Zr (HQ.o.ai k);clear k i0;have i8:=C0.o.cell (i:=8) rfl;have i9:=C0.o.cell (i:=9) rfl;go_wp2_with fail;refine (Oy _ e q ce cq c.bx.length c.bm (1+(c.r.xs.length:Int)+(c.r.ys.length:Int)) HE'.o HQ'.o lb lm (by omega) (by omega)).mono ?_;rintro e9 w2 ⟨rfl,k⟩;have K2:=Zr (K1.o.trans k);clear k;go_wp2_with fail;go_ret;exact ⟨rI E.o.symm,K2.o⟩
def xQ (c:Cp) (a b e q:Option Addr) (ca cb ce cq:Nat):Array Value:=#[.slice a c.r.xs.length ca,.slice b c.r.ys.length cb,iv c.r.o,iv c.r.p,iv c.r.f,iv c.r.m,.bool c.r.s,.bool c.r.t,.slice e c.bx.length ce,.slice q c.bm cq,.bool c.st,.bool c.ha]
structure oU (w:World) (base:Nat) (c:Cp) (a b e q:Option Addr):Prop where
 d:aP w base w.heap.size a c.r.xs
 a':aP w base w.heap.size b c.r.ys
 b':aP w base w.heap.size e c.bx
 l:aP w base w.heap.size q c.bl
 n1:∀g,blk a=some g->blk b≠some g
 n2:∀g,blk a=some g->blk e≠some g
 n3:∀g,blk a=some g->blk q≠some g
 n4:∀g,blk b=some g->blk e≠some g
 n5:∀g,blk b=some g->blk q≠some g
 n6:∀g,blk e=some g->blk q≠some g
theorem CO.Ws {w:World} {lo mid gd ga g1 g2 c2:Nat} {c:Cp} (h:CO w lo mid c gd ga g1 g2 c2):oU w lo c (some (Zt gd 0)) (some (Zt ga 0)) (some (Zt g1 0)) (some (Zt g2 0)):=by
 have:=h.d0;have:=h.d1;have:=h.a0;have:=h.a1;have:=h.da;have:=h.b0;have:=h.b1;have:=h.bl
 have q:=h.l.lt g2 rfl;refine ⟨.inr ⟨gd,rfl,by omega,by omega,h.d⟩,.inr ⟨ga,rfl,by omega,by omega,h.a⟩,.inr ⟨g1,rfl,by omega,by omega,h.b⟩,.inr ⟨g2,rfl,by omega,by omega,bY h.l⟩,?_,?_,?_,?_,?_,?_⟩ <;>
 ·intro g e1 e2;simp [blk] at e1 e2;omega
theorem zJ (w:World) (base:Nat):oU w base Ku none none none none:=
 ⟨.inl ⟨rfl,rfl⟩,.inl ⟨rfl,rfl⟩,.inl ⟨rfl,rfl⟩,.inl ⟨rfl,rfl⟩,by simp [blk],by simp [blk],by simp [blk],by simp [blk],by simp [blk],by simp [blk]⟩
def Pl.qB (c:Cp):Bool:=eY c&&(!c.st && !c.ha)
theorem Pl.GM.step {c:Cp} (h:eY c=true) (hl:c.bl.length=5*c.bm):GM (Pl.stepM c):=by
 have g:GM (Mc.ofC c):=GM.of h hl c.st;have gf:=GM.fetch g
 have h1:GM (Mc.ofC c).s1:=by
  unfold Mc.s1;cases ((Mc.ofC c).fetch.fine&&(jc (Mc.ofC c).aA && !(Mc.ofC c).fetch.r.s))
  ·exact gf
  ·exact gf.ft _
 unfold Pl.stepM Mc.s2;cases hs:(Mc.ofC c).s1.fine
 ·exact h1
 ·have hf:(Mc.ofC c).fetch.fine=true:=by
   cases q:(Mc.ofC c).fetch.fine
   ·unfold Mc.s1 at hs;rw [q] at hs;simp only [Bool.false_and,cond_false] at hs;rw [q] at hs;exact hs
   ·rfl
  exact (h1.aB (by omega) (by omega)).doI (oN hf).1 _
theorem Pl.zW {xs:List Int} (h:∀i,i<xs.length->0<=el xs i∧el xs i<=65535):xs.all aJ=true:=by
 rw [List.all_eq_true];intro x hx;obtain ⟨i,hi,rfl⟩:=List.getElem_of_mem hx;have:=h i hi;simp [el,List.getElem?_eq_getElem hi] at this;simp [aJ,within];omega
theorem Pl.wX {r:Rg} (g:Pl.Good r) (p0:0<=r.p) (p1:r.p<=65535):rE r=true:=by
 have a1:=zW (xs:=r.xs) (fun i hi=>g.dw i (by have:=g.d4;omega));have a2:=zW (xs:=r.ys) (fun i hi=>g.aw i (by have:=g.a4;omega));have h1:=g.d4;have h2:=g.a4;have h3:=g.o0;have h4:=g.o1;have h5:=g.f0;have h6:=g.f1;have h7:=g.m0;have h8:=g.m1;simp only [rE,iK,a1,a2,aJ,within,Bool.true_and,Bool.and_eq_true,decide_eq_true_eq];omega
theorem Pl.ry {c:Cp} (h:eY c=true) (hl:c.bl.length=5*c.bm):eY (di c)=true∧(di c).bl.length=5*(di c).bm:=by
 have g:=GM.of h hl c.st;have gs:=GM.step h hl
 have hb:∀(r:Rg) (st:Bool),rE r=true->eY ⟨r,(Pl.stepM c).bx,(Pl.stepM c).bl,(Pl.stepM c).bm,st,false⟩=true:=by
  intro r st hr;simp [eY,hr,Pl.dV,gs.ac,gs.bx,gs.ok,gs.bm]
 unfold di;cases (Pl.stepM c).fine
 ·exact ⟨hb _ _ (wX g.g g.p0 g.p1),gs.bl⟩
 ·exact ⟨hb _ _ (wX gs.g gs.p0 gs.p1),gs.bl⟩
structure Pl.WfR (d:Rg):Prop where
 o:(Lit.int .i64 d.o).wf=true
 p:(Lit.int .i64 d.p).wf=true
 f:(Lit.int .i64 d.f).wf=true
 m:(Lit.int .i64 d.m).wf=true
theorem wfB {v:Int} (h:(Lit.int .i64 v).wf=true) : -9223372036854775808<=v∧v<=9223372036854775807:=bounds_i64 h
theorem Yj (v:Int):okv 2 v=aJ v:=by
 unfold okv aJ within Pl.top;rw [Bool.eq_iff_iff];simp;omega
theorem isWord (v:Int) (w:World) (lo : -9223372036854775808<=v) (hi:v<=9223372036854775807) :
  Calls prog 64 #[iv v] w fun e w'=>e=.returned (.bool (aJ v))∧w'=w:=by
 go_enter func64,ntmps64;go_wp2_with (go_at_call 120;refine st (bQ _ _ _ lo hi) ?_;rw [Yj]);go_ret;exact ⟨rfl,rfl⟩
theorem V7 (k:Int) (w:World):Calls prog 169 #[iv k] w fun e w'=>e=.returned (.bool (within k 0 3))∧w'=w:=by
 by_cases h0:0<=k
 ·by_cases h1:k<=3
  ·go_enter func169,ntmps169;go_wp2;go_ret;exact ⟨rB (by simp [within,h0,h1]),rfl⟩
  ·go_enter func169,ntmps169;go_wp2;go_ret;exact ⟨rB (by simp [within,h0];omega),rfl⟩
 ·go_enter func169,ntmps169;go_wp2;go_ret;exact ⟨rB (by simp [within];omega),rfl⟩
theorem gQ (v:Int) (w:World):Calls prog 178 #[iv v] w fun e w'=>e=.returned (iv (v%65536))∧w'=w:=by
 have hW:=IntKind.wrap_u16 v;go_enter func178,ntmps178;go_wp2;go_ret;exact ⟨rfl,rfl⟩
theorem qL (k:Int) (w:World):Calls prog 191 #[iv k] w fun e w'=>e=.returned (.bool (within k 0 31))∧w'=w:=by
 by_cases h0:0<=k
 ·by_cases h1:k<=31
  ·go_enter func191,ntmps191;go_wp2;go_ret;exact ⟨rB (by simp [within,h0,h1]),rfl⟩
  ·go_enter func191,ntmps191;go_wp2;go_ret;exact ⟨rB (by simp [within,h0];omega),rfl⟩
 ·go_enter func191,ntmps191;go_wp2;go_ret;exact ⟨rB (by simp [within];omega),rfl⟩
theorem dS (w:World) (a:Option Addr) (ca:Nat) (xs:List Int) (ha:Came w a xs) (lx:xs.length<=2000000) :
  Calls prog 190 #[.slice a xs.length ca] w fun e w'=>e=.returned (.bool (xs.all aJ))∧w'=w:=by
 have HA:=Zr ha;clear ha;go_enter func190,ntmps190;go_wp2;go_loop [4,7] (fun _ j=>∃k:Nat,k<=xs.length∧j=iv k∧∀i,i<k->aJ (el xs i)=true) (fun _ j=>xs.length-(intOf j).toNat)
 case atStart=>exact ⟨0,Nat.zero_le _,rfl,fun i hi=>absurd hi (Nat.not_lt_zero i)⟩
 case round=>
  obtain ⟨k,hk,rfl,heq⟩:=hrel;have HE:=Zr heq;clear heq;by_cases hlt:k<xs.length
  ·obtain ⟨g1,o1,rfl,hc1⟩:=HA.o.1 k hlt;obtain ⟨lo,hi⟩:=HA.o.2 k hlt;rw [show xs[k]?.getD 0=el xs k from rfl] at hc1 lo hi;cases hb:aJ (el xs k)
   ·go_wp2_with (go_at_call 64;refine st (isWord _ _ lo hi) ?_;rw [hb]);go_ret;refine ⟨rB ?_,rfl⟩;have hm:xs[k]'hlt∈xs:=List.getElem_mem hlt;have he:el xs k=xs[k]'hlt:=by simp [el,List.getElem?_eq_getElem hlt]
    rw [he] at hb;cases hq:xs.all aJ
    ·rfl
    ·have:=List.all_eq_true.1 hq _ hm
     rw [hb] at this;cases this
   ·go_wp2_with (go_at_call 64;refine st (isWord _ _ lo hi) ?_;rw [hb]);go_round
    case rel=>exact ⟨k+1,by omega,by go_num,kH HE.o hb⟩
    case measure=>simp [intOf];omega
  ·go_wp2;go_ret;refine ⟨rB ?_,rfl⟩;symm;rw [List.all_eq_true];intro x hx;obtain ⟨i,hi,rfl⟩:=List.getElem_of_mem hx;have:=HE.o i (by omega);simpa [el,List.getElem?_eq_getElem hi] using this
theorem yA (z k:Int) (w:World) (hz:z=1∨z=2):Calls prog 279 #[iv z,iv k] w fun e w'=>e=.returned (iv (byN z k))∧w'=w:=by
 by_cases h:k=3
 ·subst h;go_enter func279,ntmps279;go_wp2;go_ret;exact ⟨rI (by simp [byN]),rfl⟩
 ·go_enter func279,ntmps279;go_wp2;go_ret;exact ⟨rI (by rcases hz with rfl|rfl<;>simp [byN,h]),rfl⟩
theorem zx (b:Bool) (f:Int) (w:World):Calls prog 242 #[.bool b,iv f] w fun e w'=>e=.returned (iv (fl1 b f))∧w'=w:=by
 cases b
 all_goals
  go_enter func242,ntmps242;go_wp2;go_ret;exact ⟨rfl,rfl⟩
theorem mO (w:World) (d:Rg) (a b:Option Addr) (ca cb:Nat) (ha:Came w a d.xs) (hb:Came w b d.ys) (lx:d.xs.length<=2000000) (ly:d.ys.length<=2000000) (wfd:WfR d) :
  Calls prog 137 #[.agg #[.slice a d.xs.length ca,.slice b d.ys.length cb,iv d.o,iv d.p,iv d.f,iv d.m,.bool d.s,.bool d.t]] w fun e w'=>e=.returned (.bool (rE d))∧Kept 0 0 w w':=by
 have HA:=Zr ha;have HB:=Zr hb;have HK:=Zr (kept_alloc w (.cells #[.slice a d.xs.length ca,.slice b d.ys.length cb,iv d.o,iv d.p,iv d.f,iv d.m,.bool d.s,.bool d.t] 35));clear ha hb;have G:Hid (rE d=((d.xs.all aJ&&decide ((d.xs.length:Int)=4))&&((d.ys.all aJ&&decide ((d.ys.length:Int)=4))&&(aJ d.o&&(aJ d.p&&(within d.f 0 31&&(decide (0<=d.m)&&decide (d.m<=7)))))))):=Zr rfl;cases l1:((d.xs.length:Int)==4)
 ·have q1:decide ((d.xs.length:Int)=4)=false:=by simpa using l1
  go_enter func137,ntmps137;go_wp2;go_ret;exact ⟨rB (by rw [G.o,q1];simp),HK.o⟩
 ·have q1:decide ((d.xs.length:Int)=4)=true:=by simpa using l1
  cases h2:d.xs.all aJ
  ·have qh2:True:=trivial;go_enter func137,ntmps137;go_wp2_with (first|(go_at_call 190;refine st (dS _ a ca d.xs (HA.o.ai HK.o) lx) ?_;rw [h2];have Z1:True:=trivial));go_ret;exact ⟨rB (by rw [G.o,q1,h2];simp),HK.o⟩
  ·have qh2:True:=trivial;cases l3:((d.ys.length:Int)==4)
   ·have q3:decide ((d.ys.length:Int)=4)=false:=by simpa using l3
    go_enter func137,ntmps137;go_wp2_with (first|(go_at_call 190;refine st (dS _ a ca d.xs (HA.o.ai HK.o) lx) ?_;rw [h2];have Z1:True:=trivial));go_ret;exact ⟨rB (by rw [G.o,q1,h2,q3];simp),HK.o⟩
   ·have q3:decide ((d.ys.length:Int)=4)=true:=by simpa using l3
    cases h4:d.ys.all aJ
    ·have qh4:True:=trivial;go_enter func137,ntmps137;go_wp2_with (first|(go_at_call 190;have z:=Z1;refine st (dS _ b cb d.ys (HB.o.ai HK.o) ly) ?_;rw [h4])|(go_at_call 190;refine st (dS _ a ca d.xs (HA.o.ai HK.o) lx) ?_;rw [h2];have Z1:True:=trivial));go_ret;exact ⟨rB (by rw [G.o,q1,h2,q3,h4];simp),HK.o⟩
    ·have qh4:True:=trivial;cases h5:aJ d.o
     ·have qh5:True:=trivial;go_enter func137,ntmps137;go_wp2_with (first|(go_at_call 190;have z:=Z1;refine st (dS _ b cb d.ys (HB.o.ai HK.o) ly) ?_;rw [h4])|(go_at_call 190;refine st (dS _ a ca d.xs (HA.o.ai HK.o) lx) ?_;rw [h2];have Z1:True:=trivial)|(go_at_call 64;refine st (isWord d.o _ (wfB wfd.o).1 (wfB wfd.o).2) ?_;rw [h5];have Z3:True:=trivial));go_ret;exact ⟨rB (by rw [G.o,q1,h2,q3,h4,h5];simp),HK.o⟩
     ·have qh5:True:=trivial;cases h6:aJ d.p
      ·have qh6:True:=trivial;go_enter func137,ntmps137;go_wp2_with (first|(go_at_call 190;have z:=Z1;refine st (dS _ b cb d.ys (HB.o.ai HK.o) ly) ?_;rw [h4])|(go_at_call 190;refine st (dS _ a ca d.xs (HA.o.ai HK.o) lx) ?_;rw [h2];have Z1:True:=trivial)|(go_at_call 64;have z:=Z3;refine st (isWord d.p _ (wfB wfd.p).1 (wfB wfd.p).2) ?_;rw [h6])|(go_at_call 64;refine st (isWord d.o _ (wfB wfd.o).1 (wfB wfd.o).2) ?_;rw [h5];have Z3:True:=trivial));go_ret;exact ⟨rB (by rw [G.o,q1,h2,q3,h4,h5,h6];simp),HK.o⟩
      ·have qh6:True:=trivial;cases h7:within d.f 0 31
       ·have qh7:True:=trivial;go_enter func137,ntmps137;go_wp2_with (first|(go_at_call 190;have z:=Z1;refine st (dS _ b cb d.ys (HB.o.ai HK.o) ly) ?_;rw [h4])|(go_at_call 190;refine st (dS _ a ca d.xs (HA.o.ai HK.o) lx) ?_;rw [h2];have Z1:True:=trivial)|(go_at_call 64;have z:=Z3;refine st (isWord d.p _ (wfB wfd.p).1 (wfB wfd.p).2) ?_;rw [h6])|(go_at_call 64;refine st (isWord d.o _ (wfB wfd.o).1 (wfB wfd.o).2) ?_;rw [h5];have Z3:True:=trivial)|(go_at_call 191;refine st (qL d.f _) ?_;rw [h7]));go_ret;exact ⟨rB (by rw [G.o,q1,h2,q3,h4,h5,h6,h7];simp),HK.o⟩
       ·have qh7:True:=trivial;cases h8:decide (0<=d.m)
        ·have qh8:True:=trivial;go_enter func137,ntmps137;go_wp2_with (first|(go_at_call 190;have z:=Z1;refine st (dS _ b cb d.ys (HB.o.ai HK.o) ly) ?_;rw [h4])|(go_at_call 190;refine st (dS _ a ca d.xs (HA.o.ai HK.o) lx) ?_;rw [h2];have Z1:True:=trivial)|(go_at_call 64;have z:=Z3;refine st (isWord d.p _ (wfB wfd.p).1 (wfB wfd.p).2) ?_;rw [h6])|(go_at_call 64;refine st (isWord d.o _ (wfB wfd.o).1 (wfB wfd.o).2) ?_;rw [h5];have Z3:True:=trivial)|(go_at_call 191;refine st (qL d.f _) ?_;rw [h7]));go_ret;exact ⟨rB (by rw [G.o,q1,h2,q3,h4,h5,h6,h7,h8];simp),HK.o⟩
        ·have qh8:True:=trivial;cases h9:decide (d.m<=7)
         ·have qh9:True:=trivial;go_enter func137,ntmps137;go_wp2_with (first|(go_at_call 190;have z:=Z1;refine st (dS _ b cb d.ys (HB.o.ai HK.o) ly) ?_;rw [h4])|(go_at_call 190;refine st (dS _ a ca d.xs (HA.o.ai HK.o) lx) ?_;rw [h2];have Z1:True:=trivial)|(go_at_call 64;have z:=Z3;refine st (isWord d.p _ (wfB wfd.p).1 (wfB wfd.p).2) ?_;rw [h6])|(go_at_call 64;refine st (isWord d.o _ (wfB wfd.o).1 (wfB wfd.o).2) ?_;rw [h5];have Z3:True:=trivial)|(go_at_call 191;refine st (qL d.f _) ?_;rw [h7]));go_ret;exact ⟨rB (by rw [G.o,q1,h2,q3,h4,h5,h6,h7,h8,h9];simp),HK.o⟩
         ·have qh9:True:=trivial;go_enter func137,ntmps137;go_wp2_with (first|(go_at_call 190;have z:=Z1;refine st (dS _ b cb d.ys (HB.o.ai HK.o) ly) ?_;rw [h4])|(go_at_call 190;refine st (dS _ a ca d.xs (HA.o.ai HK.o) lx) ?_;rw [h2];have Z1:True:=trivial)|(go_at_call 64;have z:=Z3;refine st (isWord d.p _ (wfB wfd.p).1 (wfB wfd.p).2) ?_;rw [h6])|(go_at_call 64;refine st (isWord d.o _ (wfB wfd.o).1 (wfB wfd.o).2) ?_;rw [h5];have Z3:True:=trivial)|(go_at_call 191;refine st (qL d.f _) ?_;rw [h7]));go_ret;exact ⟨rB (by rw [G.o,q1,h2,q3,h4,h5,h6,h7,h8,h9];simp),HK.o⟩
def bkR (r:Rg):Array Value:=#[iv (el r.xs 0),iv (el r.xs 1),iv (el r.xs 2),iv (el r.xs 3),iv (el r.ys 0),iv (el r.ys 1),iv (el r.ys 2),iv (el r.ys 3),iv r.o,iv r.p,iv r.f,iv r.m,.bool r.s,.bool r.t]
theorem Qg (r:Rg):(bkR r).all (·.oneCell')=true:=by simp [bkR,Value.oneCell']
theorem vJ (r:Rg):(prog.info? 151).map (·.size)=some (bkR r).size:=by
 have:(prog.info? 151).map (·.size)=some 14:=by kernel_rfl
 exact this
theorem list4 {xs:List Int} (h:xs.length=4):xs=[el xs 0,el xs 1,el xs 2,el xs 3]:=by
 match xs,h with
 | [a,b,c,d],_=>rfl
theorem mk4 (w:World):(Instr.makeSlice 22 (iv 4) (iv 4)).run prog w=.ok (.slice (some (Zt w.heap.size 0)) 4 4) (w.alloc (.cells #[iv 0,iv 0,iv 0,iv 0] 3)):=by kernel_rfl
theorem Oh (x0 x1 x2 x3:Int) (w:World) :
  Calls prog 180 #[.agg #[iv x0,iv x1,iv x2,iv x3]] w fun e w'=>e=.returned (.slice (some (Zt (w.heap.size+1) 0)) 4 4)∧Blk w' (w.heap.size+1) (cellsOf [x0,x1,x2,x3]) 3∧Kept 0 0 w w':=by
 have B0:Blk ((w.alloc (.cells #[iv x0,iv x1,iv x2,iv x3] 149)).alloc (.cells #[iv 0,iv 0,iv 0,iv 0] 3)) w.heap.size (cellsOf [x0,x1,x2,x3]) 149:=(Blk.new w #[iv x0,iv x1,iv x2,iv x3] 149).alloc _;have B1:=Blk.new (w.alloc (.cells #[iv x0,iv x1,iv x2,iv x3] 149)) #[iv 0,iv 0,iv 0,iv 0] 3;simp only [World.size_alloc] at B1;obtain ⟨W1,hcopy,C1,k1⟩:=xU _ (w.heap.size+1) 0 4 4 4 (some (Zt w.heap.size 0)) [x0,x1,x2,x3] [iv 0,iv 0,iv 0,iv 0] 3 B1 (ik B0).row (by simp) (by simp);have hc:(Builtin.copy_ #[22,22] 3 #[.slice (some (Zt (w.heap.size+1) 0)) 4 4,.slice (some (Zt w.heap.size 0)) 4 4]).run prog ((w.alloc (.cells #[iv x0,iv x1,iv x2,iv x3] 149)).alloc (.cells #[iv 0,iv 0,iv 0,iv 0] 3))=.ok (iv 4) W1:=hcopy;have C:=Zr (show Blk W1 (w.heap.size+1) (cellsOf [x0,x1,x2,x3]) 3 from C1);have K:=Zr (aI (ag (kept_alloc w _) _) k1 (by omega));clear B0 B1 hcopy C1 k1;have mk:=mk4;go_enter func180,ntmps180;go_wp2;go_ret;exact ⟨rfl,C.o,K.o⟩
theorem UB (w:World) (d:Rg) (a b:Option Addr) (ca cb:Nat) (ha:aG w a d.xs) (hb:aG w b d.ys) (lx:d.xs.length=4) (ly:d.ys.length=4) :
  Calls prog 121 #[.agg #[.slice a d.xs.length ca,.slice b d.ys.length cb,iv d.o,iv d.p,iv d.f,iv d.m,.bool d.s,.bool d.t]] w fun e w'=>e=.returned (.agg (bkR d))∧Kept 0 0 w w':=by
 rw [lx,ly];obtain ⟨W0,h0⟩:∃W:World,W=((w.alloc (.cells #[.slice a 4 ca,.slice b 4 cb,iv d.o,iv d.p,iv d.f,iv d.m,.bool d.s,.bool d.t] 35)).alloc (.cells #[iv 0,iv 0,iv 0,iv 0,iv 0,iv 0,iv 0,iv 0,iv 0,iv 0,iv 0,iv 0,.bool false,.bool false] 151)).alloc (.cells #[iv 0,iv 0,iv 0,iv 0,iv 0,iv 0,iv 0,iv 0,iv d.o,iv d.p,iv d.f,iv d.m,.bool d.s,.bool d.t] 151):=⟨_,rfl⟩
 have R0:Blk W0 w.heap.size #[.slice a 4 ca,.slice b 4 cb,iv d.o,iv d.p,iv d.f,iv d.m,.bool d.s,.bool d.t] 35:=by rw [h0];exact ((Blk.new w _ _).alloc _).alloc _
 have Z0:Blk W0 (w.heap.size+1) #[iv 0,iv 0,iv 0,iv 0,iv 0,iv 0,iv 0,iv 0,iv 0,iv 0,iv 0,iv 0,.bool false,.bool false] 151:=by
  rw [h0];have:=Blk.new (w.alloc (.cells #[.slice a 4 ca,.slice b 4 cb,iv d.o,iv d.p,iv d.f,iv d.m,.bool d.s,.bool d.t] 35)) #[iv 0,iv 0,iv 0,iv 0,iv 0,iv 0,iv 0,iv 0,iv 0,iv 0,iv 0,iv 0,.bool false,.bool false] 151;simp only [World.size_alloc] at this;exact this.alloc _
 have B0:Blk W0.drew (w.heap.size+1+1) #[iv 0,iv 0,iv 0,iv 0,iv 0,iv 0,iv 0,iv 0,iv d.o,iv d.p,iv d.f,iv d.m,.bool d.s,.bool d.t] 151:=by
  rw [h0];have:=Blk.new ((w.alloc (.cells #[.slice a 4 ca,.slice b 4 cb,iv d.o,iv d.p,iv d.f,iv d.m,.bool d.s,.bool d.t] 35)).alloc (.cells #[iv 0,iv 0,iv 0,iv 0,iv 0,iv 0,iv 0,iv 0,iv 0,iv 0,iv 0,iv 0,.bool false,.bool false] 151)) #[iv 0,iv 0,iv 0,iv 0,iv 0,iv 0,iv 0,iv 0,iv d.o,iv d.p,iv d.f,iv d.m,.bool d.s,.bool d.t] 151;simp only [World.size_alloc] at this;exact this
 have K0:Kept 0 0 w W0.drew:=by rw [h0];exact ah (ag (ag (kept_alloc w _) _) _)
 have r00:=R0.cell (i:=0) rfl;have r01:=R0.cell (i:=1) rfl;obtain ⟨W1,hc1,B1,k1⟩:=xU W0.drew (w.heap.size+1+1) 0 4 4 ca a d.xs _ _ B0 (ha.ai K0) (by omega) (by rw [lx];simp);have K1:Kept 0 0 w W1.drew:=ah (aI K0 k1 (by omega));have R1:Blk W1 w.heap.size #[.slice a 4 ca,.slice b 4 cb,iv d.o,iv d.p,iv d.f,iv d.m,.bool d.s,.bool d.t] 35:=Blk.kept (show Blk W0.drew _ _ _ from R0) k1 (by omega);have r11:=R1.cell (i:=1) rfl;obtain ⟨W2,hc2,B2,k2⟩:=xU W1.drew (w.heap.size+1+1) 4 4 4 cb b d.ys _ _ (show Blk W1.drew _ _ _ from B1) (hb.ai K1) (by omega) (by rw [ly,length_splice _ _ _ (by simp [lx])];simp);have Z1:=Blk.kept (show Blk W0.drew _ _ _ from Z0) k1 (by omega);have Z2:=Zr (Blk.kept (show Blk W1.drew _ _ _ from Z1) k2 (by omega));have K2:=Zr (aI K1 k2 (by omega));rw [lx] at hc1;rw [ly] at hc2
 have D2:Hid (Blk W2 (w.heap.size+1+1) (bkR d) 151):=Zr (by
  rw [list4 lx,list4 ly] at B2
  exact B2)
 clear B0 B1 B2 k1 k2 K0 K1 R0 Z0 R1 Z1;go_enter func121,ntmps121;go_wp2_with fail;rw [<-h0];clear h0;go_region;go_wp2_with fail;go_region;go_wp2_with (first|(refine wpList_load_row rfl 151 (.tmp 3) rfl (w.heap.size+1+1) rfl 151 (bkR d) (0,0) _ D2.o underlying151 rfl (vJ d) ?_)|(refine wpList_store_row rfl 151 (.tmp 2) (.tmp 27) rfl (w.heap.size+1) (bkR d) rfl rfl 151 _ Z2.o (vJ d) rfl (Qg d) ?_));refine bodyPost_ret (v:=.agg (bkR d)) ?_ rfl ⟨rfl,kX K2.o _ _ (by omega)⟩;exact results_cell_row rfl _ _ _ _ _ (0,0) _ rfl Z2.o.setRow underlying151 rfl (vJ d)
theorem bkX {r:Rg} (h:r.xs.length=4) {k:Nat} (hk:k<4) (z:Int):bkR {r with xs:=r.xs.set k z}=(bkR r).setIfInBounds k (iv z):=by
 obtain ⟨xs,ys,o,p,f,m,s,t⟩:=r
 match xs,h with
 | [a,b,c,d],_=>
  have:k=0∨k=1∨k=2∨k=3:=by omega
  rcases this with rfl|rfl|rfl|rfl<;>rfl
theorem bkY {r:Rg} (h:r.ys.length=4) {k:Nat} (hk:k<4) (z:Int):bkR {r with ys:=r.ys.set k z}=(bkR r).setIfInBounds (4+k) (iv z):=by
 obtain ⟨xs,ys,o,p,f,m,s,t⟩:=r
 match ys,h with
 | [a,b,c,d],_=>
  have:k=0∨k=1∨k=2∨k=3:=by omega
  rcases this with rfl|rfl|rfl|rfl<;>rfl
theorem Qj (x:Nat):x &&& 18446744073709551360=x/256%72057594037927936*256:=by
 apply Nat.eq_of_testBit_eq;intro i;rw [Nat.testBit_and,show (18446744073709551360:Nat)=(2^56-1)*2^8 from by decide,Nat.testBit_mul_two_pow,Nat.testBit_two_pow_sub_one,show x/256%72057594037927936*256=x/2^8%2^56*2^8 from rfl,Nat.testBit_mul_two_pow,Nat.testBit_mod_two_pow,Nat.testBit_div_two_pow];by_cases h:8<=i
 ·have e:i-8+8=i:=by omega
  simp [h,e,Bool.and_comm]
 ·simp [h]
theorem Gf {x:Int} (h0:0<=x) (h1:x<=65535):bits .andNot .i64 x 255=x/256*256:=by
 show IntKind.i64.wrap ((BitVec.ofInt 64 x &&& ~~~ BitVec.ofInt 64 255).toNat:Int)=_
 rw [BitVec.toNat_and,BitVec.toNat_ofInt,show (~~~ BitVec.ofInt 64 255).toNat=18446744073709551360 from by decide,Qj,IntKind.wrap_i64];omega
theorem RS (x y:Int):bits .or .i64 x y=bits .or .i64 y x:=by
 show IntKind.i64.wrap ((BitVec.ofInt 64 x ||| BitVec.ofInt 64 y).toNat:Int)=IntKind.i64.wrap ((BitVec.ofInt 64 y ||| BitVec.ofInt 64 x).toNat:Int)
 rw [BitVec.or_comm]
theorem zV {x v:Int} (h0:0<=x) (h1:x<=65535) (v0:0<=v) (v1:v<=255):bits .or .i64 v (bits .andNot .i64 x 255)=x/256*256+v:=by
 rw [Gf h0 h1,RS];exact bits_join .i64 62 (by decide) Pl.gU 8 (x/256*256) v (by omega) (by omega) (by omega) (by omega) (by omega) (by omega)
structure Tl where
 c:Array Value
 y:TypeId
structure Hl where
 a:Bool
 t:Tl
abbrev tl0:Tl:=⟨#[],159⟩
def cor (r:Rg) (xs:List Int) (u:Value) (st:Bool) (ha:Hl):Array Value:=bkR r++(cellsOf xs++(#[u,.bool st,.bool ha.a]++ha.t.c))
theorem set_left {A B:Array Value} {i:Nat} (h:i<A.size) (v:Value):(A++B).setIfInBounds i v=A.setIfInBounds i v++B:=by
 apply Array.ext_getElem?;intro j;simp only [Array.getElem?_setIfInBounds,Array.getElem?_append,Array.size_append,Array.size_setIfInBounds];by_cases e:i=j
 ·subst e;simp [h];omega
 ·simp [e]
theorem set_right {A B:Array Value} (i:Nat) (v:Value):(A++B).setIfInBounds (A.size+i) v=A++B.setIfInBounds i v:=by
 apply Array.ext_getElem?;intro j;simp only [Array.getElem?_setIfInBounds,Array.getElem?_append,Array.size_append];by_cases e:A.size+i=j
 ·subst e;simp;omega
 ·by_cases h:j<A.size
  ·simp [e,h]
  ·simp [e,h,show ¬i=j-A.size by omega]
theorem Since.mine {w a b:World} {lo hi x y g g':Nat} (h:Since w lo hi g a g') (k:Kept x y a b) (hx:w.heap.size<=x):Since w lo hi g b g':=
 ⟨h.1,⟨k.os.trans h.2.os,k.tape.trans h.2.tape,k.output.trans h.2.output,Nat.le_trans h.2.size k.size,fun i hi' hn=>(k.block i (Nat.lt_of_lt_of_le hi' h.2.size) (by omega)).trans (h.2.block i hi' hn)⟩⟩
section
variable {r:Rg} {xs:List Int} {u:Value} {st:Bool} {ha:Hl}
theorem zL {x:Bool} (hl:xs.length=512):(cor r xs u st ⟨x,tl0⟩).size=529:=by
 have:(bkR r).size=14:=rfl
 simp [cor,this,cellsOf_size,hl]
theorem xR {i:Nat} (h:i<14):(cor r xs u st ha)[i]? = (bkR r)[i]? := Array.getElem?_append_left h
theorem KI (i:Nat):(cor r xs u st ha)[14+i]? = (cellsOf xs++(#[u,.bool st,.bool ha.a]++ha.t.c))[i]? := by
 have:=Array.getElem?_append_right (xs:=bkR r) (ys:=cellsOf xs++(#[u,.bool st,.bool ha.a]++ha.t.c)) (i:=14+i) (Nat.le_add_right 14 i)
 rw [show 14+i-(bkR r).size=i from Nat.add_sub_cancel_left 14 i] at this;exact this
theorem vw {i:Nat} (hi:i<xs.length):(cor r xs u st ha)[14+i]? = some (iv (el xs i)):=by
 rw [KI,Array.getElem?_append_left (by rw [cellsOf_size];exact hi)];simp [cellsOf,el,hi]
theorem BB (hl:xs.length=512) (i:Nat):(cor r xs u st ha)[14+(512+i)]? = ((#[u,.bool st,.bool ha.a]++ha.t.c:Array Value))[i]? := by
 rw [KI,Array.getElem?_append_right (by rw [cellsOf_size,hl];omega),cellsOf_size,hl,Nat.add_sub_cancel_left]
theorem kC (hl:xs.length=512):(cor r xs u st ha)[526]? = some u:=(BB hl 0).trans (Array.getElem?_append_left (by simp))
theorem Kw (hl:xs.length=512):(cor r xs u st ha)[527]? = some (.bool st):=(BB hl 1).trans (Array.getElem?_append_left (by simp))
theorem KJ (hl:xs.length=512):(cor r xs u st ha)[528]? = some (.bool ha.a):=(BB hl 2).trans (Array.getElem?_append_left (by simp))
theorem FP {i:Nat} (v:Int):(cellsOf xs).setIfInBounds i (iv v)=cellsOf (xs.set i v):=by
 simp [cellsOf,List.map_set]
theorem KG {i:Nat} {z:Int} (hi:i<xs.length):(cor r xs u st ha).setIfInBounds (14+i) (iv z)=cor r (xs.set i z) u st ha:=by
 show (bkR r++_).setIfInBounds ((bkR r).size+i) _=_
 rw [set_right,set_left (by rw [cellsOf_size];exact hi),FP];rfl
theorem Ky (hl:xs.length=512) (u':Value):(cor r xs u st ha).setIfInBounds 526 u'=cor r xs u' st ha:=by
 show (bkR r++_).setIfInBounds ((bkR r).size+512) _=_
 have e:=set_right (A:=cellsOf xs) (B:=(#[u,.bool st,.bool ha.a]++ha.t.c)) 0 u';rw [cellsOf_size,hl] at e;rw [set_right,show (512:Nat)=512+0 from rfl,e,set_left (by simp)];rfl
theorem Kz (hl:xs.length=512) (s':Bool):(cor r xs u st ha).setIfInBounds 527 (.bool s')=cor r xs u s' ha:=by
 show (bkR r++_).setIfInBounds ((bkR r).size+513) _=_
 have e:=set_right (A:=cellsOf xs) (B:=(#[u,.bool st,.bool ha.a]++ha.t.c)) 1 (.bool s');rw [cellsOf_size,hl] at e;rw [set_right,show (513:Nat)=512+1 from rfl,e,set_left (by simp)];rfl
theorem KC {r':Rg} {i:Nat} {v:Value} (hi:i<14) (h:bkR r'=(bkR r).setIfInBounds i v):(cor r xs u st ha).setIfInBounds i v=cor r' xs u st ha:=by
 show (bkR r++_).setIfInBounds i v=_
 rw [set_left hi,<-h];rfl
end
theorem QT {r:Rg} {k:Nat} (hk:k<4):(bkR r)[k]? = some (iv (el r.xs k))∧(bkR r)[4+k]? = some (iv (el r.ys k)):=by
 have:k=0∨k=1∨k=2∨k=3:=by omega
 rcases this with rfl|rfl|rfl|rfl<;>exact ⟨rfl,rfl⟩
def CBk (w:World) (b g cu:Nat) (c:Mc) (h:Hl):Prop:=Blk w b (cor c.r c.bx (.slice (some (Zt g 0)) c.bm cu) c.st h) h.t.y
structure CLg (w:World) (lo b g cu:Nat) (bl:List Int) (bm:Nat):Prop where
 l:w.ownsRow lo 179 5 (.slice (some (Zt g 0)) bm cu) bm (bl.map (Value.int .i64))
 lo':lo<=b
 ne:b≠g
def CAt (w:World) (lo b g:Nat) (c:Mc) (h:Hl):Prop:=∃cu:Nat,CBk w b g cu c h∧CLg w lo b g cu c.bl c.bm
section
variable {w w':World} {lo b g cu:Nat} {c:Mc} {h:Hl} {bl:List Int} {bm:Nat}
theorem CLg.own (o:CLg w lo b g cu bl bm) (k:Kept b (b+1) w w'):CLg w' lo b g cu bl bm:=⟨bG o.l k (by have:=o.ne;omega),o.lo',o.ne⟩
theorem CLg.any (o:CLg w lo b g cu bl bm) (k:Kept 0 0 w w'):CLg w' lo b g cu bl bm:=⟨bG o.l k (by omega),o.lo',o.ne⟩
theorem CLg.lt (o:CLg w lo b g cu bl bm):lo<=g∧g<w.heap.size:=o.l.lt g rfl
theorem CAt.lt (a:CAt w lo b g c h):lo<=b∧b<w.heap.size∧lo<=g∧g<w.heap.size∧b≠g:=by
 obtain ⟨cu,hB,hO⟩:=a;have:=hO.lt;exact ⟨hO.lo',Blk.lt hB,this.1,this.2,hO.ne⟩
theorem CAt.any (a:CAt w lo b g c h) (k:Kept 0 0 w w'):CAt w' lo b g c h:=by
 obtain ⟨cu,hB,hO⟩:=a;exact ⟨cu,Blk.ae hB k,hO.any k⟩
theorem CAt.alloc (a:CAt w lo b g c h) (o:Obj):CAt (w.alloc o) lo b g c h:=a.any (kept_alloc w o)
theorem CAt.drew (a:CAt w lo b g c h):CAt w.drew lo b g c h:=a.any (ah (Kept.refl _ _ _))
theorem CAt.other (a:CAt w lo b g c h) (q i:Nat) (v:Value) (h1:q≠b) (h2:q≠g):CAt (w.setCell ⟨q,i,none⟩ v) lo b g c h:=by
 obtain ⟨cu,hB,hO⟩:=a;have k:=af (Kept.refl q (q+1) w) q i v (.inl (by omega));exact ⟨cu,Blk.kept hB k (by omega),⟨bG hO.l k (by omega),hO.lo',hO.ne⟩⟩
theorem CAt.kept {x y:Nat} (a:CAt w lo b g c h) (k:Kept x y w w') (h1:¬(x<=b∧b<y)) (h2:¬(x<=g∧g<y)):CAt w' lo b g c h:=by
 obtain ⟨cu,hB,hO⟩:=a;exact ⟨cu,Blk.kept hB k h1,⟨bG hO.l k h2,hO.lo',hO.ne⟩⟩
theorem CAt.reg {r':Rg} (a:CAt w lo b g c h) {i:Nat} {v:Value} (hi:i<14) (e:bkR r'=(bkR c.r).setIfInBounds i v):CAt (w.setCell ⟨b,i,none⟩ v) lo b g (c.bg r') h:=by
 obtain ⟨cu,hB,hO⟩:=a;refine ⟨cu,?_,hO.own (ak w b i v)⟩;have:=Blk.set hB i v;rw [KC hi e] at this;exact this
theorem CAt.yD (a:CAt w lo b g c h) (l4:c.r.xs.length=4) {k:Nat} (hk:k<4) (v:Int):CAt (w.setCell ⟨b,k,none⟩ (iv v)) lo b g (c.bg {c.r with xs:=c.r.xs.set k v}) h:=a.reg (by omega) (bkX l4 hk v)
theorem CAt.uC (a:CAt w lo b g c h) (l4:c.r.ys.length=4) {k:Nat} (hk:k<4) (v:Int):CAt (w.setCell ⟨b,4+k,none⟩ (iv v)) lo b g (c.eG k v) h:=a.reg (r':={c.r with ys:=c.r.ys.set k v}) (by omega) (bkY l4 hk v)
theorem CAt.aB (a:CAt w lo b g c h) (v:Int):CAt (w.setCell (Zt b 9) (iv v)) lo b g (c.aB v) h:=a.reg (r':={c.r with p:=v}) (by omega) rfl
theorem CAt.aH (a:CAt w lo b g c h) (v:Int):CAt (w.setCell (Zt b 10) (iv v)) lo b g (c.aH v) h:=a.reg (r':={c.r with f:=v}) (by omega) rfl
theorem CAt.Ve (a:CAt w lo b g c h) (l:c.bx.length=512) (v:Bool):CAt (w.setCell (Zt b 527) (.bool v)) lo b g {c with st:=v} h:=by
 obtain ⟨cu,hB,hO⟩:=a;refine ⟨cu,?_,hO.own (ak w b 527 (.bool v))⟩;have:=Blk.set hB 527 (.bool v);rw [Kz l] at this;exact this
theorem CAt.cX (a:CAt w lo b g c h) {k:Nat} (hk:k<4):w.cell? ⟨b,k,none⟩=some (iv (el c.r.xs k)):=by
 obtain ⟨cu,hB,hO⟩:=a;exact Blk.cell hB ((xR (by omega)).trans (QT hk).1)
theorem CAt.cY (a:CAt w lo b g c h) {k:Nat} (hk:k<4):w.cell? ⟨b,4+k,none⟩=some (iv (el c.r.ys k)):=by
 obtain ⟨cu,hB,hO⟩:=a;exact Blk.cell hB ((xR (by omega)).trans (QT hk).2)
theorem CAt.cR (a:CAt w lo b g c h) {i:Nat} {v:Value} (hi:i<14) (e:(bkR c.r)[i]? = some v):w.cell? ⟨b,i,none⟩=some v:=by
 obtain ⟨cu,hB,hO⟩:=a;exact Blk.cell hB ((xR hi).trans e)
theorem CAt.cO (a:CAt w lo b g c h):w.cell? (Zt b 8)=some (iv c.r.o):=a.cR (by omega) rfl
theorem CAt.cP (a:CAt w lo b g c h):w.cell? (Zt b 9)=some (iv c.r.p):=a.cR (by omega) rfl
theorem CAt.cF (a:CAt w lo b g c h):w.cell? (Zt b 10)=some (iv c.r.f):=a.cR (by omega) rfl
theorem CAt.cM (a:CAt w lo b g c h):w.cell? (Zt b 11)=some (iv c.r.m):=a.cR (by omega) rfl
theorem CAt.cS (a:CAt w lo b g c h):w.cell? (Zt b 12)=some (.bool c.r.s):=a.cR (by omega) rfl
theorem CAt.cT (a:CAt w lo b g c h):w.cell? (Zt b 13)=some (.bool c.r.t):=a.cR (by omega) rfl
theorem CAt.cSt (a:CAt w lo b g c h) (l:c.bx.length=512):w.cell? (Zt b 527)=some (.bool c.st):=by
 obtain ⟨cu,hB,hO⟩:=a;exact Blk.cell hB (Kw l)
theorem CAt.cH (a:CAt w lo b g c h) (l:c.bx.length=512):w.cell? (Zt b 528)=some (.bool h.a):=by
 obtain ⟨cu,hB,hO⟩:=a;exact Blk.cell hB (KJ l)
theorem CAt.fz (a:CAt w lo b g c h) (i:Nat):w.frozen? ⟨b,i,none⟩=false:=by
 obtain ⟨cu,hB,hO⟩:=a;exact Blk.frozen hB i
end
theorem CAt.kN {w:World} {lo b g:Nat} {c:Mc} {h:Hl} (hC:CAt w lo b g c h) (op z r m k e s:Int):∃X:World,(w.alloc (.cells (inA op z r m k e s) 48)).alloc (.cells ftZ 42)=X∧Hid (Kept 0 0 w X)∧Hid (CAt X lo b g c h)∧Hid (Blk X w.heap.size (inA op z r m k e s) 48)∧Hid (Blk X (w.heap.size+1) ftZ 42)∧w.heap.size+1<X.heap.size:=by
 have R:=Blk.new (w.alloc (.cells (inA op z r m k e s) 48)) ftZ 42;rw [World.size_alloc] at R;exact ⟨_,rfl,Zr ((kept_alloc w _).trans (kept_alloc _ _)),Zr ((hC.alloc _).alloc _),Zr ((Blk.new w (inA op z r m k e s) _).alloc _),Zr R,R.lt⟩
theorem Le (w:World) (lo b g:Nat) (c:Mc) (h:Hl) (z k v:Int) (hC:CAt w lo b g c h) (hg:Pl.Good c.r) (k0:0<=k) (k3:k<=3) (hz:z=1∨z=2) (hv:okv z v=true) :
  Calls prog 252 #[.pointer (some (Zt b 0)),iv z,iv k,iv v] w fun e w'=>e=.returned (.tuple #[])∧CAt w' lo b g (c.put z k v) h∧Kept b (b+1) w w':=by
 obtain ⟨n,rfl⟩:∃n:Nat,k=(n:Int):=⟨k.toNat,by omega⟩
 have hn:n<4:=by omega
 have ht:=aO hv;have HC:=Zr hC;have L4:=Zr hg.d4;have q0:=hC.cX hn;have f0:=hC.fz n;obtain ⟨x0,x1⟩:=hg.dw n hn;have hk:=ak w b n;have HK:=Zr hk;clear hC hg hk;rcases hz with rfl|rfl
 ·have hb:=zV x0 x1 (v:=v) (by omega) (by omega);clear hv ht;go_enter func252,ntmps252;go_wp2_with fail;go_end0;exact ⟨rfl,HC.o.yD L4.o hn _,HK.o _⟩
 ·clear hv ht;go_enter func252,ntmps252;go_wp2_with fail;go_end0;exact ⟨rfl,HC.o.yD L4.o hn _,HK.o _⟩
theorem zN (w:World) (lo b g:Nat) (c:Mc) (h:Hl) (n:Int) (hC:CAt w lo b g c h) (hg:Pl.Good c.r) (h0:0<=n) (h1:n<=1023) :
  Calls prog 198 #[.pointer (some (Zt b 0)),iv n] w fun e w'=>e=.returned (.tuple #[])∧CAt w' lo b g (c.bg (aT c.r n)) h∧Kept b (b+1) w w':=by
 have e1:=Qu h0 h1;have e2:=Qs h0 h1;have e3:=Vd h0 h1;have e4:=st7 h0 h1;have HC:=Zr hC;have h4:=Zr hg.a4;have c7:w.cell? (Zt b 7)=some (iv (el c.r.ys 3)):=hC.cY (k:=3) (by omega);have c8:=hC.cO;have c10:=hC.cF;have c11:=hC.cM;have c12:=hC.cS;have c13:=hC.cT;have fz:=hC.fz;clear hC hg;by_cases hs:bV n=c.r.s
 ·have q1:(bV n==c.r.s)=true:=by simp [hs]
  have E:Hid (aT c.r n={c.r with s:=bV n,t:=dU n,m:=n/32%8,f:=n%32}):=Zr (by unfold aT;rw [if_pos hs]);clear hs c7 c8;go_enter func198,ntmps198;go_wp2_with fail;go_end0;refine ⟨rfl,?_,(((ak _ _ _ _).one _ _).one _ _).one _ _⟩;rw [E.o];exact (((HC.o.reg (r':={c.r with s:=bV n}) (i:=12) (v:=.bool (bV n)) (by omega) rfl).reg (r':={c.r with s:=bV n,t:=dU n}) (i:=13) (v:=.bool (dU n)) (by omega) rfl).reg (r':={c.r with s:=bV n,t:=dU n,m:=n/32%8}) (i:=11) (v:=iv (n/32%8)) (by omega) rfl).aH (n%32)
 ·have q1:(bV n==c.r.s)=false:=by simpa using hs
  have E:Hid (aT c.r n={c.r with ys:=c.r.ys.set 3 c.r.o,o:=el c.r.ys 3,s:=bV n,t:=dU n,m:=n/32%8,f:=n%32}):=Zr (by unfold aT;rw [if_neg hs]);clear hs;go_enter func198,ntmps198;go_wp2_with fail;go_region;go_wp2_with fail;go_end0;refine ⟨rfl,?_,ah ((((((ak _ _ _ _).one _ _).one _ _).one _ _).one _ _).one _ _)⟩;obtain ⟨Y,hY⟩:∃Y,Y=c.r.ys.set 3 c.r.o:=⟨_,rfl⟩
  have a1:CAt (w.setCell (Zt b 7) (iv c.r.o)) lo b g (c.bg {c.r with ys:=Y}) h:=by rw [hY];exact HC.o.uC h4.o (k:=3) (by omega) c.r.o
  rw [E.o,<-hY];clear hY;have a2:=a1.reg (r':={c.r with ys:=Y,o:=el c.r.ys 3}) (i:=8) (v:=iv (el c.r.ys 3)) (by omega) rfl;have a3:=a2.reg (r':={c.r with ys:=Y,o:=el c.r.ys 3,s:=bV n}) (i:=12) (v:=.bool (bV n)) (by omega) rfl;have a4:=a3.reg (r':={c.r with ys:=Y,o:=el c.r.ys 3,s:=bV n,t:=dU n}) (i:=13) (v:=.bool (dU n)) (by omega) rfl;have a5:=a4.reg (r':={c.r with ys:=Y,o:=el c.r.ys 3,s:=bV n,t:=dU n,m:=n/32%8}) (i:=11) (v:=iv (n/32%8)) (by omega) rfl;have a6:=a5.reg (r':={c.r with ys:=Y,o:=el c.r.ys 3,s:=bV n,t:=dU n,m:=n/32%8,f:=n%32}) (i:=10) (v:=iv (n%32)) (by omega) rfl;exact a6.drew
theorem pI (a:Int) (w:World):Calls prog 271 #[iv a] w fun e w'=>e=.returned (.bool (Pl.addr a))∧w'=w:=by
 by_cases h0:0<=a
 all_goals
  by_cases h1:a<=65535
  all_goals
   go_enter func271,ntmps271;go_wp2;go_ret;exact ⟨rB (by simp [Pl.addr,h0,h1]<;>omega),rfl⟩
theorem jZ (a:Int) (w:World):Calls prog 270 #[iv a] w fun e w'=>e=.returned (.bool (dI a))∧w'=w:=by
 by_cases h0:1<=a
 all_goals
  by_cases h1:a<=3
  all_goals
   go_enter func270,ntmps270;go_wp2;go_ret;exact ⟨rB (by simp [dI,h0,h1]<;>omega),rfl⟩
theorem zi (a:Int) (w:World) (h0:0<=a) (h1:a<=65535):Calls prog 291 #[iv a] w fun e w'=>e=.returned (.bool (decide (a%2=1)))∧w'=w:=by
 go_enter func291,ntmps291;go_wp2;go_ret;refine ⟨rB ?_,rfl⟩;rw [Bool.eq_iff_iff];simp;omega
theorem partOf (a:Int) (w:World):Calls prog 292 #[iv a] w fun e w'=>e=.returned (iv (Pl.kind a))∧w'=w:=by
 by_cases h1:512<=a
 ·have E:Hid (Pl.kind a=1):=Zr (by simp [Pl.kind,h1]);go_enter func292,ntmps292;go_wp2;go_ret;exact ⟨rI E.o.symm,rfl⟩
 ·by_cases h2:496<=a
  ·have E:Hid (Pl.kind a=0):=Zr (by unfold Pl.kind;rw [if_neg (by omega),if_neg (by omega)]);go_enter func292,ntmps292;go_wp2;go_ret;exact ⟨rI E.o.symm,rfl⟩
  ·by_cases h3:448<=a
   ·have E:Hid (Pl.kind a=1):=Zr (by unfold Pl.kind;rw [if_pos (by omega)]);go_enter func292,ntmps292;go_wp2;go_ret;exact ⟨rI E.o.symm,rfl⟩
   ·by_cases h4:384<=a
    ·have E:Hid (Pl.kind a=3):=Zr (by unfold Pl.kind;rw [if_neg (by omega),if_pos (by omega)]);go_enter func292,ntmps292;go_wp2;go_ret;exact ⟨rI E.o.symm,rfl⟩
    ·have E:Hid (Pl.kind a=0):=Zr (by unfold Pl.kind;rw [if_neg (by omega),if_neg (by omega)]);go_enter func292,ntmps292;go_wp2;go_ret;exact ⟨rI E.o.symm,rfl⟩
namespace Pl
def sK (k s a v c:Int):Bool:=okv s v&&(dI k&&(addr a&&(decide (0<=c)&&decide (c<=3))))
theorem oQ (k s a v c:Int):fF k s a v c=(sK k s a v c && !((k==3)&&(c==0))):=by
 unfold fF sK;rw [Bool.eq_iff_iff];simp only [Bool.and_eq_true,Bool.or_eq_true,Bool.not_eq_true',decide_eq_true_eq,bne_iff_ne,ne_eq,Bool.and_eq_false_iff,beq_eq_false_iff_ne];constructor
 ·rintro ⟨a1,a2,a3,a4,a5⟩;exact ⟨⟨a2,a1,a3,a4⟩,a5⟩
 ·rintro ⟨⟨a2,a1,a3,a4⟩,a5⟩;exact ⟨a1,a2,a3,a4,a5⟩
end Pl
theorem uT (k s a v c:Int) (w:World) (lo : -9223372036854775808<=v) (hi:v<=9223372036854775807):Calls prog 237 #[.agg #[iv k,iv s,iv a,iv v,iv c]] w fun e w'=>e=.returned (.bool (sK k s a v c))∧∃o,w'=w.alloc o:=by
 cases h1:okv s v
 ·go_enter func237,ntmps237;go_wp2_with (first|(go_at_call 120;refine st (bQ _ _ _ lo hi) ?_;rw [h1])|(go_at_call 270;refine st (jZ _ _) ?_)|(go_at_call 271;refine st (pI _ _) ?_));go_ret;exact ⟨rB (by unfold sK;rw [h1];rfl),_,rfl⟩
 ·cases h2:dI k
  ·go_enter func237,ntmps237;go_wp2_with (first|(go_at_call 120;refine st (bQ _ _ _ lo hi) ?_;rw [h1])|(go_at_call 270;refine st (jZ _ _) ?_;rw [h2])|(go_at_call 271;refine st (pI _ _) ?_));go_ret;exact ⟨rB (by unfold sK;rw [h1,h2];rfl),_,rfl⟩
  ·cases h3:Pl.addr a
   ·go_enter func237,ntmps237;go_wp2_with (first|(go_at_call 120;refine st (bQ _ _ _ lo hi) ?_;rw [h1])|(go_at_call 270;refine st (jZ _ _) ?_;rw [h2])|(go_at_call 271;refine st (pI _ _) ?_;rw [h3]));go_ret;exact ⟨rB (by unfold sK;rw [h1,h2,h3];rfl),_,rfl⟩
   ·cases h4:decide (0<=c)
    all_goals
     cases h5:decide (c<=3)
     all_goals
      go_enter func237,ntmps237;go_wp2_with (first|(go_at_call 120;refine st (bQ _ _ _ lo hi) ?_;rw [h1])|(go_at_call 270;refine st (jZ _ _) ?_;rw [h2])|(go_at_call 271;refine st (pI _ _) ?_;rw [h3]));go_ret;exact ⟨rB (by unfold sK;rw [h1,h2,h3,h4,h5];rfl),_,rfl⟩
theorem qK (k s a v c:Int) (w:World) (lo : -9223372036854775808<=v) (hi:v<=9223372036854775807):Calls prog 193 #[.agg #[iv k,iv s,iv a,iv v,iv c]] w fun e w'=>e=.returned (.bool (fF k s a v c))∧∃o p,w'=(w.alloc o).alloc p:=by
 cases h1:sK k s a v c
 ·go_enter func193,ntmps193;go_wp2_with (go_at_call 237;refine (uT _ _ _ _ _ _ lo hi).mono ?_;rintro e w' ⟨rfl,o,rfl⟩;rw [h1]);go_ret;exact ⟨rB (by rw [oQ,h1];rfl),_,_,rfl⟩
 ·cases h2:(k==3)
  ·go_enter func193,ntmps193;go_wp2_with (go_at_call 237;refine (uT _ _ _ _ _ _ lo hi).mono ?_;rintro e w' ⟨rfl,o,rfl⟩;rw [h1]);go_ret;exact ⟨rB (by rw [oQ,h1,h2];rfl),_,_,rfl⟩
  ·cases h3:(c==0)
   all_goals
    go_enter func193,ntmps193;go_wp2_with (go_at_call 237;refine (uT _ _ _ _ _ _ lo hi).mono ?_;rintro e w' ⟨rfl,o,rfl⟩;rw [h1]);go_ret;exact ⟨rB (by rw [oQ,h1,h2,h3];rfl),_,_,rfl⟩
theorem Yk (v:Int):okv 1 v=ji v:=by
 unfold okv ji Pl.top;rw [Bool.eq_iff_iff];simp;omega
theorem isByte (v:Int) (w:World) (lo : -9223372036854775808<=v) (hi:v<=9223372036854775807) :
  Calls prog 170 #[iv v] w fun e w'=>e=.returned (.bool (ji v))∧w'=w:=by
 go_enter func170,ntmps170;go_wp2_with (go_at_call 120;refine st (bQ _ _ _ lo hi) ?_;rw [Yk]);go_ret;exact ⟨rfl,rfl⟩
theorem vM (w:World) (a:Option Addr) (ca:Nat) (xs:List Int) (ha:Came w a xs) (lx:xs.length<=2000000) :
  Calls prog 192 #[.slice a xs.length ca] w fun e w'=>e=.returned (.bool (aW xs))∧w'=w:=by
 have HA:=Zr ha;clear ha;go_enter func192,ntmps192;go_wp2;go_loop [4,7] (fun _ j=>∃k:Nat,k<=xs.length∧j=iv k∧∀i,i<k->ji (el xs i)=true) (fun _ j=>xs.length-(intOf j).toNat)
 case atStart=>exact ⟨0,Nat.zero_le _,rfl,fun i hi=>absurd hi (Nat.not_lt_zero i)⟩
 case round=>
  obtain ⟨k,hk,rfl,heq⟩:=hrel;have HE:=Zr heq;clear heq;by_cases hlt:k<xs.length
  ·obtain ⟨g1,o1,rfl,hc1⟩:=HA.o.1 k hlt;obtain ⟨lo,hi⟩:=HA.o.2 k hlt;rw [show xs[k]?.getD 0=el xs k from rfl] at hc1 lo hi;cases hb:ji (el xs k)
   ·go_wp2_with (go_at_call 170;refine st (isByte _ _ lo hi) ?_;rw [hb]);go_ret;exact ⟨rB (vH hlt hb).symm,rfl⟩
   ·go_wp2_with (go_at_call 170;refine st (isByte _ _ lo hi) ?_;rw [hb]);go_round
    case rel=>exact ⟨k+1,by omega,by go_num,kH HE.o hb⟩
    case measure=>simp [intOf];omega
  ·go_wp2;go_ret;exact ⟨rB (qo (fun i hi=>HE.o i (by omega))).symm,rfl⟩
theorem UG.at5 {ys:List Int} (h:UG ys) {m k:Nat} (hl:ys.length=5*m) (hk:k<m) : -9223372036854775808<=el ys (k*5+3)∧el ys (k*5+3)<=9223372036854775807:=h (k*5+3) (by omega)
theorem dV (w:World) (a b:Option Addr) (ca cb m:Nat) (xs ys:List Int) (ha:Came w a xs) (hb:Came w b ys) (lx:xs.length<=2000000) (ly:ys.length=5*m) (bm:m<=2000000) :
  Calls prog 138 #[.agg #[.slice a xs.length ca,.slice b m cb]] w fun e w'=>e=.returned (.bool (Pl.dV xs ys m))∧Kept 0 0 w w':=by
 have HA:=Zr ha;have HB:=Zr hb;have HY:=Zr ly;have HK0:=Zr (kept_alloc w (.cells #[.slice a xs.length ca,.slice b m cb] 38));clear ha hb ly;cases h1:((xs.length:Int) != 512)
 ·have hl5:xs.length=512:=by simp at h1;omega
  have G:Hid (Pl.dV xs ys m=(jl ys m&&(aW xs&&decide (m<=400)))):=Zr (by
   unfold Pl.dV
   rw [show decide (xs.length=512)=true from by simp [hl5],Bool.true_and])
  clear hl5;cases h2:aW xs
  ·go_enter func138,ntmps138;go_wp2_with (go_at_call 192;refine st (vM _ a ca xs (HA.o.ai HK0.o) lx) ?_;rw [h2]);go_ret;exact ⟨rB (by rw [G.o,h2,Bool.false_and,Bool.and_false]),HK0.o⟩
  ·cases h3:decide ((400:Int)<(m:Int))
   ·go_enter func138,ntmps138;go_wp2_with (first|(go_at_call 192;refine st (vM _ a ca xs (HA.o.ai HK0.o) lx) ?_;rw [h2])|fail);obtain ⟨W,hW⟩:∃W:World,W=w.alloc (.cells #[.slice a xs.length ca,.slice b m cb] 38):=⟨_,rfl⟩
    rw [<-hW] at HK0 ⊢;clear hW;go_loopw [4,24] (fun _ j wr=>∃k:Nat,k<=m∧j=iv k∧(∀i,i<k->qY ys i=true)∧Kept 0 0 W wr) (fun _ j _=>m-(intOf j).toNat)
    case atStart=>exact ⟨0,Nat.zero_le _,rfl,fun i hi=>absurd hi (Nat.not_lt_zero i),Kept.refl _ _ _⟩
    case round=>
     obtain ⟨k,hk,rfl,heq,hkept⟩:=hrel;have HE:=Zr heq;have HK:=Zr hkept;clear heq hkept;by_cases hlt:k<m
     ·obtain ⟨lo,hi⟩:=HB.o.2.at5 HY.o hlt;obtain ⟨g1,o1,rfl,p0,p1,p2,p3,p4⟩:=((HB.o.ai (HK0.o.trans HK.o)).1).five HY.o hlt;cases hb:qY ys k
      ·have hb2:fF (el ys (k*5)) (el ys (k*5+1)) (el ys (k*5+2)) (el ys (k*5+3)) (el ys (k*5+4))=false:=hb;clear hb;go_wp2_with (go_at_call 193;refine (qK _ _ _ _ _ _ lo hi).mono ?_;rintro e w' ⟨rfl,o,p,rfl⟩;rw [hb2]);go_ret;exact ⟨rB (by unfold Pl.dV;rw [wQ hlt hb2];rfl),HK0.o.trans (ag (ag (ag HK.o _) _) _)⟩
      ·have hb2:fF (el ys (k*5)) (el ys (k*5+1)) (el ys (k*5+2)) (el ys (k*5+3)) (el ys (k*5+4))=true:=hb;clear hb;go_wp2_with (go_at_call 193;refine (qK _ _ _ _ _ _ lo hi).mono ?_;rintro e w' ⟨rfl,o,p,rfl⟩;rw [hb2]);go_roundw
       case rel=>exact ⟨k+1,by omega,by go_num,kH HE.o hb2,ag (ag (ag HK.o _) _) _⟩
       case measure=>simp [intOf];omega
     ·have HA1:Hid (jl ys m=true):=Zr (wP (fun i hi=>HE.o i (by omega)));go_wp2_with fail;go_ret;refine ⟨rB ?_,HK0.o.trans HK.o⟩;rw [G.o,HA1.o,h2];simp at h3;simp;omega
   ·go_enter func138,ntmps138;go_wp2_with (go_at_call 192;refine st (vM _ a ca xs (HA.o.ai HK0.o) lx) ?_;rw [h2]);go_ret;refine ⟨rB ?_,HK0.o⟩;rw [G.o];simp at h3;rw [show decide (m<=400)=false from by simp;omega];simp
 ·have hl5:Hid (¬xs.length=512):=Zr (by simp at h1;omega);go_enter func138,ntmps138;go_wp2_with (go_at_call 192;fail);go_ret;refine ⟨rB ?_,HK0.o⟩;unfold Pl.dV;rw [show decide (xs.length=512)=false from by simp [hl5.o]];simp
def zeros:List Int:=List.replicate 512 0
theorem fA:zeros.length=512:=List.length_replicate ..
theorem Tryz.Dn:(prog.info? 154).map (fun i=>(i.zero,i.size))=some (some (.agg (cellsOf zeros)),512):=by kernel_rfl
theorem Tryz.NW:∀w,(zeroValue 154).run prog w=.ok (.agg (cellsOf zeros)) w:=(zero_of_info Tryz.Dn).1
theorem Tryz.xq:(prog.info? 154).map (·.size)=some 512:=(zero_of_info Tryz.Dn).2
theorem IM (w : World) (a b : Option Addr) (ca cb m : Nat) (xs : List Int) (ha : aG w a xs) (lx : xs.length = 512) :
    Calls prog 177 #[.agg #[.slice a xs.length ca, .slice b m cb]] w fun e w' => e = .returned (.agg (cellsOf xs)) ∧ Kept 0 0 w w' := by
  obtain ⟨ga, oa, rfl, _⟩ := ha 0 (by omega);have HA := Zr ha;have HX := Zr lx;clear ha lx;have mz := Tryz.NW;have HS : Hid ((prog.info? 3).map (·.size) = some 1) := Zr (by kernel_rfl);go_enter func177, ntmps177;go_wp2_with fail;have K := Zr (ag (ag (kept_alloc w (.cells #[.slice (some ⟨ga, oa, none⟩) xs.length ca, .slice b m cb] 38)) (.cells (cellsOf zeros) 154)) (.cells (cellsOf zeros) 154));have B0 := (((Blk.new w #[.slice (some ⟨ga, oa, none⟩) xs.length ca, .slice b m cb] 38).alloc (.cells (cellsOf zeros) 154)).alloc (.cells (cellsOf zeros) 154))
  have B1 := ((Blk.new (w.alloc (.cells #[.slice (some ⟨ga, oa, none⟩) xs.length ca, .slice b m cb] 38)) (cellsOf zeros) 154).alloc (.cells (cellsOf zeros) 154))
  have B2 := Blk.new ((w.alloc (.cells #[.slice (some ⟨ga, oa, none⟩) xs.length ca, .slice b m cb] 38)).alloc (.cells (cellsOf zeros) 154)) (cellsOf zeros) 154;simp only [World.size_alloc] at B1 B2;obtain ⟨W, hW⟩ : ∃ W : World, W = (((w.alloc (.cells #[.slice (some ⟨ga, oa, none⟩) xs.length ca, .slice b m cb] 38)).alloc (.cells (cellsOf zeros) 154)).alloc (.cells (cellsOf zeros) 154)) := ⟨_, rfl⟩
  rw [<- hW] at K B0 B1 B2 ⊢;clear hW;have p0 := B0.cell (i := 0) rfl;have H1 := Zr B1;have H2 := Zr B2;clear B0 B1 B2;have HZ : Hid ((prog.info? 154).map (·.size) = some (cellsOf xs).size) := Zr (by rw [cellsOf_size, HX.o]; exact Tryz.xq);have HZ2 : Hid ((cellsOf zeros).size = (cellsOf xs).size) := Zr (by rw [cellsOf_size, cellsOf_size, HX.o, fA]);have HN : Hid ((xs.map (Value.int .i64)).length = Nat.min xs.length 512) := Zr (by rw [HX.o]; simp [HX.o]);have HF : Hid (0 + (xs.map (Value.int .i64)).length <= (zeros.map (Value.int .i64)).length) := Zr (by simp [HX.o, fA])
  go_region_law (refine step_copy_splice rfl (.tmp 4) (.tmp 6) 22 22 rfl 3 underlying22 HS.o _ _ _ _ _ _ rfl rfl (w.heap.size + 1 + 1) 0 (zeros.map (Value.int .i64)) 154 ?hg (xs.map (Value.int .i64)) HN.o ?hpos HF.o iq (w.heap.size + 1 + 1) W ?hb (Nat.le_refl _) ?_
                 (case hg => exact H2.o)
                 (case hb => exact (Below.refl _ W).drew)
                 (case hpos => intro _; exact ⟨rfl, _, rfl, iF (HA.o.ai (ah K.o))⟩)
                 intro w4 hg4 hb4)
  all_goals
    have D2 : Hid (Blk w4 (w.heap.size + 1 + 1) (cellsOf xs) 154) := Zr (by
      have h := hg4.o;rw [Az (by simp [HX.o, fA])] at h
      exact h)
    have D1 : Hid (Blk w4 (w.heap.size + 1) (cellsOf zeros) 154) := Zr ((hb4.block _ (by omega)).trans H1.o);have K4 : Hid (Kept 0 0 w w4) := Zr (dZ K.o hb4 (by omega));clear hg4 hb4;go_wp2_with (first | (refine wpList_load_row rfl 154 (.tmp 3) rfl (w.heap.size + 1 + 1) rfl 154 (cellsOf xs) (0, 0) _ D2.o underlying154 rfl HZ.o ?_) | (refine wpList_store_row rfl 154 (.tmp 2) (.tmp 8) rfl (w.heap.size + 1) (cellsOf xs) rfl rfl 154 (cellsOf zeros) D1.o HZ.o HZ2.o (sQ xs) ?_));refine bodyPost_ret (v := .agg (cellsOf xs)) ?_ rfl ⟨rfl, kX K4.o _ _ (by omega)⟩;exact results_cell_row rfl _ _ _ _ _ (0, 0) _ rfl D1.o.setRow underlying154 rfl HZ.o
theorem N7 (w:World) (xs:List Int) (lx:xs.length=512) :
  Calls prog 181 #[.agg (cellsOf xs)] w fun e w'=>∃g:Nat,e=.returned (.slice (some (Zt g 0)) 512 512)∧Blk w' g (cellsOf xs) 3∧w.heap.size<=g∧Kept 0 0 w w':=by
 obtain ⟨i,hi,hz0,hz1,hz2⟩:=info_parts Tryz.info3;have HS:Hid ((prog.info? 3).map (·.size)=some 1):=Zr (by kernel_rfl);have HX:=Zr lx;clear lx;go_enter func181,ntmps181;go_wp2_with (first|(at_make;refine wpList_make_full _ rfl _ _ 22 rfl w.heap.size 3 i (iv 0) 1 underlying22 hi hz0 hz1 _ _ _ _ 512 rfl rfl rfl rfl ?c1 ?c2 ?c3 ?_))
 case c1=>rw [hz2];decide
 case c2=>unfold maxLen;decide
 case c3=>simp
 intro w1 hown hg;have K1:=Zr ((kept_alloc w (.cells (cellsOf xs) 154)).trans (aX hg));have B0:=Zr ((Blk.new w (cellsOf xs) 154).ae (aX hg))
 have B1:Hid (Blk w1 (w.heap.size+1) (cellsOf zeros) 3):=Zr (by
  have h:=vI hown
  have e:(madeCells #[Value.int .i64 0] 512).toList=zeros.map (Value.int .i64):=by
   rw [toList_madeCells_one,zeros,List.map_replicate]
  rw [e] at h
  exact h)
 clear hown hg;have HR:Hid (aG w1 (some (Zt w.heap.size 0)) xs):=Zr (ik B0.o).row
 have hcopy:(Builtin.copy_ #[22,22] 3 #[.slice (some (Zt (w.heap.size+1) 0)) 512 512,.slice (some (Zt w.heap.size 0)) 512 512]).run prog w1=.ok (iv 512) (w1.setRow (w.heap.size+1) (cellsOf xs)):=by
  have h:=run_copy_row prog w1 22 22 3 3 (w.heap.size+1) 0 512 512 (Zt w.heap.size 0) 512 512 (cellsOf zeros) 3 (xs.map (Value.int .i64)) underlying22 HS.o B1.o (by simp [HX.o]) (iF HR.o) (by simp [HX.o,cellsOf_size,fA]) iq;rw [h]
  have e:(List.take 0 (cellsOf zeros).toList++xs.map (Value.int .i64)++List.drop (0+(xs.map (Value.int .i64)).length) (cellsOf zeros).toList)=xs.map (Value.int .i64):=by
   rw [List.drop_eq_nil_of_le (by simp [HX.o,cellsOf_size,fA])];simp
  rw [e,show (xs.map (Value.int .i64)).length=512 by simp [HX.o]];rfl
 go_wp2_with fail;have hl:=B1.o.lt;refine bodyPost_ret (results_tmp rfl _ _ _) rfl ⟨w.heap.size+1,rfl,B1.o.setRow,by omega,kX K1.o _ _ (by omega)⟩
theorem CW (w:World) (xs:List Int) (s n:Nat) (lx:xs.length=512) (hb:aW xs=true) (s0:1<=s) (s1:s<=2) (hn:n+s<=512) :
  Calls prog 294 #[.agg (cellsOf xs),iv s,iv n] w fun e w'=>e=.returned (iv (Pl.rd xs s n))∧Kept 0 0 w w':=by
 have HX:=Zr lx;have HO:=Zr (ik (Blk.new w (cellsOf xs) 154));have HK:=Zr (kept_alloc w (.cells (cellsOf xs) 154));have HB:=Zr hb;have HS0:=Zr s0;have HN:Hid (n+s<=512):=Zr hn;clear lx hb
 have hsl:∀W:World,(Instr.sliceAt 154 (.pointer (some (Zt w.heap.size 0))) (some (iv (n:Int))) (some (iv ((n:Int)+(s:Int)))) none).run prog W=.ok (.slice (some ⟨w.heap.size,n,none⟩) s (512-n)) W:=by
  intro W;have hlen:prog.arrayLen 154=512:=by kernel_rfl
  have hel:prog.elem 154=3:=by kernel_rfl
  have ht:prog.underlying 154=some (.array (prog.arrayLen 154) (prog.elem 154)):=by kernel_rfl
  obtain ⟨i,hi,hz0,hz1,hz2⟩:=info_parts Tryz.info3;rw [run_sliceAt_array_lh W 154 _ ht .i64 .i64 n ((n:Int)+(s:Int)) (by omega) (by omega) (by rw [hlen];omega),hlen,hel];have e1:((n:Int)).toNat=n:=by omega
  have e2:((n:Int)+(s:Int)).toNat-n=s:=by omega
  have q1:¬512=n:=by omega
  simp only [sizeOf,typeInfo,Sem.run_bind,Sem.run_pure,slicedAt,e1,e2,q1,if_false];simp [hi,hz1,Addr.add];intro h0;exact h0.symm
 go_enter func294,ntmps294;go_wp2_with fail;go_loop [7,9,16] (fun v _ j=>∃k:Nat,k<=s∧j=iv k∧v=iv (rdK xs n k)) (fun _ _ j=>s-(intOf j).toNat)
 case atStart=>exact ⟨0,Nat.zero_le _,rfl,rfl⟩
 case round=>
  obtain ⟨k,hk,rfl,rfl⟩:=hrel;by_cases hlt:k<s
  ·obtain ⟨hc,_⟩:=HO.o (n+k) (by rw [HX.o];omega);have b0:=dA HB.o n (by rw [HX.o];omega);have b1:=dA HB.o (n+k) (by rw [HX.o];omega);rw [show xs[n+k]?.getD 0=el xs (n+k) from rfl] at hc;obtain ⟨b00,b01⟩:=b0;obtain ⟨b10,b11⟩:=b1;by_cases hk0:k=0
   ·subst hk0;have hor:=tu (h:=0) (by decide) (by decide) b10 b11;rw [Int.zero_mul,Int.zero_add] at hor;rw [Nat.add_zero] at hc hor b10 b11;rw [show rdK xs n 0=0 from rfl];go_wp2;go_round
    case rel=>exact ⟨1,by omega,rfl,rfl⟩
    case measure=>simp [intOf];omega
   ·obtain rfl:k=1:=by omega
    have hor:=tu b00 b01 b10 b11;rw [show rdK xs n 1=el xs n from rfl];go_wp2;go_round
    case rel=>exact ⟨2,by omega,rfl,rfl⟩
    case measure=>simp [intOf];omega
  ·have E:Hid (rdK xs n k=Pl.rd xs s n):=Zr (by
    have:k=1∨k=2:=by omega
    unfold rdK Pl.rd;rcases this with rfl|rfl
    ·rw [if_neg (by decide),if_pos rfl,if_pos (by omega)]
    ·rw [if_neg (by decide),if_neg (by decide),if_neg (by omega)])
   go_wp2;go_ret;exact ⟨rI E.o,HK.o⟩
theorem codeOf (k s a v c:Int) (w:World) (hs:s=1∨s=2) (a0:0<=a) (a1:a<=65535) :
  Calls prog 267 #[.agg #[iv k,iv s,iv a,iv v,iv c]] w fun e w'=>e=.returned (iv (Pl.code k s a))∧∃o,w'=w.alloc o:=by
 have G:Hid (Pl.code k s a=if ((s==2)&&decide (a%2=1)) then 2 else if ((Pl.kind a==3)&&(k != 2)) then 0 else Pl.kind a):=Zr (by
  rw [FN hs]
  simp only [Bool.and_eq_true,beq_iff_eq,decide_eq_true_eq,bne_iff_ne,ne_eq])
 cases h1:(s==2)
 ·cases h3:(Pl.kind a==3)
  ·rw [h1,h3] at G;go_enter func267,ntmps267;go_wp2_with (first|(go_at_call 291;refine st (zi _ _ a0 a1) ?_)|(go_at_call 292;refine st (partOf _ _) ?_));go_ret;exact ⟨rI (by rw [G.o];simp),_,rfl⟩
  ·cases h4:(k != 2)
   all_goals
    rw [h1,h3,h4] at G;go_enter func267,ntmps267;go_wp2_with (first|(go_at_call 291;refine st (zi _ _ a0 a1) ?_)|(go_at_call 292;refine st (partOf _ _) ?_));go_ret;exact ⟨rI (by rw [G.o];simp),_,rfl⟩
 ·cases h2:decide (a%2=1)
  ·cases h3:(Pl.kind a==3)
   ·rw [h1,h2,h3] at G;go_enter func267,ntmps267;go_wp2_with (first|(go_at_call 291;refine st (zi _ _ a0 a1) ?_;rw [h2])|(go_at_call 292;refine st (partOf _ _) ?_));go_ret;exact ⟨rI (by rw [G.o];simp),_,rfl⟩
   ·cases h4:(k != 2)
    all_goals
     rw [h1,h2,h3,h4] at G;go_enter func267,ntmps267;go_wp2_with (first|(go_at_call 291;refine st (zi _ _ a0 a1) ?_;rw [h2])|(go_at_call 292;refine st (partOf _ _) ?_));go_ret;exact ⟨rI (by rw [G.o];simp),_,rfl⟩
  ·rw [h1,h2] at G;go_enter func267,ntmps267;go_wp2_with (first|(go_at_call 291;refine st (zi _ _ a0 a1) ?_;rw [h2])|(go_at_call 292;refine st (partOf _ _) ?_));go_ret;exact ⟨rI (by rw [G.o];simp),_,rfl⟩
theorem IP (w:World) (xs:List Int) (s:Int) (n:Nat) (lx:xs.length=512) (hb:aW xs=true) (hs:s=1∨s=2) (hn:(n:Int)+s<=512) :
  Calls prog 294 #[.agg (cellsOf xs),iv s,iv n] w fun e w'=>e=.returned (iv (Pl.rd xs s n))∧Kept 0 0 w w':=by
 rcases hs with rfl|rfl
 ·exact CW w xs 1 n lx hb (by decide) (by decide) (by omega)
 ·exact CW w xs 2 n lx hb (by decide) (by decide) (by omega)
theorem YX {w:World} {q:Nat} {k s a v c:Int} {ty:TypeId} (h:Blk w q #[iv k,iv s,iv a,iv v,iv c] ty):w.cell? (Zt q 1)=some (iv s)∧w.cell? (Zt q 2)=some (iv a)∧w.cell? (Zt q 3)=some (iv v):=
 ⟨h.cell (i:=1) rfl,h.cell (i:=2) rfl,h.cell (i:=3) rfl⟩
theorem WQ {w:World} {q:Nat} {k s a v c:Int} {ty:TypeId} (h:Blk w q #[iv k,iv s,iv a,iv v,iv c] ty):w.cell? (Zt q 1)=some (iv s)∧w.cell? (Zt q 2)=some (iv a):=
 ⟨h.cell (i:=1) rfl,h.cell (i:=2) rfl⟩
namespace Pl
theorem Vs {xs:List Int} {s:Int} {i:Nat} (hb:aW xs=true) (hs:s=1∨s=2) (hi:(i:Int)+s<=xs.length):0<=rd xs s i∧rd xs s i<=(if s=1 then 255 else 65535):=by
 unfold rd;rcases hs with rfl|rfl
 ·rw [if_pos rfl,if_pos rfl];exact dA hb i (by omega)
 ·rw [if_neg (by decide),if_neg (by decide)];have:=dA hb i (by omega);have:=dA hb (i+1) (by omega);omega
theorem PE (k s a:Int):0<=code k s a∧code k s a<=3:=by
 unfold code;repeat' split
 all_goals omega
theorem QG {xs:List Int} {k s a v:Int} (hl:xs.length=512) (hb:aW xs=true) (h:dX k s a v=true):0<=lv xs k s a v∧lv xs k s a v<=(if s=1 then 255 else 65535):=by
 obtain ⟨_,hs,v0,⟨a0,a1⟩,_⟩:=qp h;unfold lv;split
 ·rename_i hc;have:=qQ hc.1 a0;exact Vs hb (by omega) (by omega)
 ·rcases hs with ⟨rfl,h1⟩|⟨rfl,h1⟩
  ·rw [if_pos rfl];omega
  ·rw [if_neg (by decide)];omega
theorem LK {xs:List Int} {k s a v:Int} (hl:xs.length=512) (hb:aW xs=true) (h:dX k s a v=true):fF k s a (lv xs k s a v) (code k s a)=((k != 3)||(code k s a != 0)):=by
 have hv:=QG hl hb h;have hc:=PE k s a;obtain ⟨hk,hs,_,⟨a0,a1⟩,_⟩:=qp h;have e1:dI k=true:=by simp [dI];omega
 have e2:okv s (lv xs k s a v)=true:=by
  unfold okv top;rcases hs with ⟨rfl,_⟩|⟨rfl,_⟩
  ·rw [if_pos rfl] at hv;simp;omega
  ·rw [if_neg (by decide)] at hv;simp;omega
 have e3:addr a=true:=by simp [addr];omega
 have e4:(decide (0<=code k s a)&&decide (code k s a<=3))=true:=by simp;omega
 unfold fF;rw [e1,e2,e3,e4];rfl
end Pl
end Go.Proofs.YtgikibaajanjiaaGreatDoor
