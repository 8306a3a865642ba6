/- Part 22 of what the last text leans on. -/
import Derived.Test.YtgikibaajanjiaaGreatDoorJC21
import Derived.Test.YtgikibaajanjiaaGreatDoorJC12
import Derived.Deep.DeepCutAuto
import Derived.Test.YtgikibaajanjiaaGreatDoorRows
import Derived.Test.YtgikibaajanjiaaGreatDoorJC18
import Derived.Lib.LaidTab
import Derived.Stop.LaidErr
import Derived.LaidMore
import Derived.Test.YtgikibaajanjiaaGreatDoorJC1
import Derived.Test.YtgikibaajanjiaaGreatDoorJC11
import Derived.Lib.SmallJoins
import Derived.Deep.Slices
import Derived.ProofKit
import Derived.OpenShut
set_option maxRecDepth 100000
set_option maxHeartbeats 16000000
namespace Go.Proofs.YtgikibaajanjiaaGreatDoor
open Pl
open Go.RowKit Go.Proofs.Tryz
set_option linter.unusedVariables false
theorem zD (d:Cp) (a b e q:Option Addr) (ca cb ce cq:Nat) (n:Int) (w:World) (ht:ny w) (hn:qG w) (hx:Came w a d.r.xs) (hy:Came w b d.r.ys) (hz:Came w e d.bx) (hq:Came w q d.bl) (lx:d.r.xs.length<=9223372036854775807) (ly:d.r.ys.length<=9223372036854775807) (lz:d.bx.length<=9223372036854775807) (lm:d.bm<=9223372036854775807) (ll:d.bl.length=5*d.bm) (wfd:WfR d.r) (wfn:(Lit.int .i64 n).wf=true) :
  Calls prog 8 #[.agg (cpA d a b e q ca cb ce cq),iv n] w fun e w'=>e=.returned (.bool true)∧Below w.heap.size w w':=by
 have HX:=aab hx;have HY:=aab hy;have HZ:=aab hz;have HQ:=aab hq;have HWF:=aab wfd;have HLL:=aab ll;have HS:=aab ht;have HT:=aab hn;have Bel:=aab (kept_alloc w (.cells (cpA d a b e q ca cb ce cq) 29)).below;have WA:=aab (Blk.new w (cpA d a b e q ca cb ce cq) 29);obtain ⟨X0,hX0⟩:∃X:World,w.alloc (.cells (cpA d a b e q ca cb ce cq) 29)=X:=⟨_,rfl⟩
 have nX0:X0.heap.size=w.heap.size+1:=by simp [<-hX0]
 rw [hX0] at Bel WA;have hln:=SV d n ll;clear hx hy hz hq wfd ll ht hn;by_cases hs:szC d.r.xs.length d.r.ys.length d.bx.length d.bm 1048576<0
 ·go_enter func8,ntmps8;have p0:=WA.o.all;go_wp2_with fail;refine (QW _ d a b e q ca cb ce cq 1048576 lx ly lz lm (by decide) (by decide)).mono ?_;rintro e9 w1 ⟨rfl,k⟩;have Bn:=aab (aS Bel.o k (by omega));clear k;go_wp2_with fail;go_ret;exact ⟨rfl,Bn.o⟩
 ·have hb:=NS hs;have bx:d.r.xs.length<=2000000:=by omega
  have by_:d.r.ys.length<=2000000:=by omega
  have bz:d.bx.length<=2000000:=by omega
  have bm:d.bm<=2000000:=by omega
  have ds:decide (szC d.r.xs.length d.r.ys.length d.bx.length d.bm 1048576<0)=false:=by simpa using hs
  clear hs hb;generalize hDD:rwC d n=D at hln;generalize hLsLs:rwL d n=Ls at hln;generalize hKK:nI d n=K;obtain ⟨⟨bD,bE,bF,bL,bM⟩,bT⟩:=hln;have HDL:=aab bL;clear bL;have HDD:=aab hDD;have HLsLs:=aab hLsLs;have HKK:=aab hKK;clear hDD hLsLs hKK;go_enter func8,ntmps8;have p0:=WA.o.all;go_wp2_with fail;clear p0;refine (QW _ d a b e q ca cb ce cq 1048576 lx ly lz lm (by decide) (by decide)).mono ?_;rintro e9 w1 ⟨rfl,k⟩;replace Bel:=aab (aS Bel.o k (by omega));replace WA:=aab (WA.o.kept k (by omega));have nw1:=k.size;clear k;clear hX0;have p0:=WA.o.all;go_wp2_with fail;clear p0 ds;refine (Di _ d a b e q ca cb ce cq (HX.o.below Bel.o).1 (HY.o.below Bel.o).1 (HZ.o.below Bel.o).1 (HQ.o.below Bel.o).1 bx by_ bz HLL.o bm).mono ?_;rintro e9 w2 ⟨g1,g2,g3,g4,rfl,hs9,k⟩;replace Bel:=aab (aS Bel.o k (by omega));replace WA:=aab (WA.o.kept k (by omega));have nw2:=k.size;have O1:=aab hs9;clear k hs9;go_wp2_with fail;refine (xB _ d n _ _ _ _ _ _ _ _ O1.o.d.row O1.o.a'.row O1.o.b'.row O1.o.l.row bx by_ bz HLL.o bm).mono ?_;unfold qo RunIn;rw [HDD.o,HLsLs.o,HKK.o];unfold Ad;rintro e9 w3 ⟨a0,b0,e0,q0,d0,ca0,cb0,ce0,cq0,cd0,rfl,hin,hls,hdj,k⟩;have hsl:=hin.slx;replace Bel:=aab (aS Bel.o k (by omega));replace WA:=aab (WA.o.kept k (by omega));replace O1:=aab (O1.o.kept k (by omega));have nw3:=k.size;have S0:=aab hsl;have T0:=aab hls;have DJ0:=aab hdj;clear hls hdj;clear k hin hsl;clear O1;have k:Kept 0 0 w3 (w3.alloc (.cells (cpA D a0 b0 e0 q0 ca0 cb0 ce0 cq0) 40)):=kept_alloc w3 _;replace Bel:=aab (aS Bel.o k (by omega));replace WA:=aab (WA.o.kept k (by omega));replace S0:=aab (S0.o.kept k (by omega));replace T0:=aab (T0.o.kept k (by omega));have W0:=aab (Blk.new w3 (cpA D a0 b0 e0 q0 ca0 cb0 ce0 cq0) 40);obtain ⟨X3,hX3⟩:∃X:World,(w3.alloc (.cells (cpA D a0 b0 e0 q0 ca0 cb0 ce0 cq0) 40))=X:=⟨_,rfl⟩
  have nX3:X3.heap.size=w3.heap.size+1:=by simp [<-hX3]
  rw [hX3] at Bel WA S0 T0 W0;clear k;have p0:=WA.o.all;go_wp2_with fail;clear p0 hX3;refine (Di _ d a b e q ca cb ce cq (HX.o.below Bel.o).1 (HY.o.below Bel.o).1 (HZ.o.below Bel.o).1 (HQ.o.below Bel.o).1 bx by_ bz HLL.o bm).mono ?_;rintro e9 w4 ⟨g5,g6,g7,g8,rfl,hs9,k⟩;replace Bel:=aab (aS Bel.o k (by omega));replace WA:=aab (WA.o.kept k (by omega));replace S0:=aab (S0.o.kept k (by omega));replace T0:=aab (T0.o.kept k (by omega));replace W0:=aab (W0.o.kept k (by omega));have nw4:=k.size;have O3:=aab hs9;clear k hs9;have k:Kept 0 0 w4 (w4.alloc (.cells (cpA d (some (aac g5 0)) (some (aac g6 0)) (some (aac g7 0)) (some (aac g8 0)) d.r.xs.length d.r.ys.length d.bx.length d.bm) 40)):=kept_alloc w4 _;replace Bel:=aab (aS Bel.o k (by omega));replace WA:=aab (WA.o.kept k (by omega));replace S0:=aab (S0.o.kept k (by omega));replace T0:=aab (T0.o.kept k (by omega));replace W0:=aab (W0.o.kept k (by omega));replace O3:=aab (O3.o.kept k (by omega));have VA:=aab (Blk.new w4 (cpA d (some (aac g5 0)) (some (aac g6 0)) (some (aac g7 0)) (some (aac g8 0)) d.r.xs.length d.r.ys.length d.bx.length d.bm) 40);obtain ⟨X4,hX4⟩:∃X:World,(w4.alloc (.cells (cpA d (some (aac g5 0)) (some (aac g6 0)) (some (aac g7 0)) (some (aac g8 0)) d.r.xs.length d.r.ys.length d.bx.length d.bm) 40))=X:=⟨_,rfl⟩
  have nX4:X4.heap.size=w4.heap.size+1:=by simp [<-hX4]
  rw [hX4] at Bel WA S0 T0 W0 O3 VA;clear k;have p0:=VA.o.all;go_wp2_with fail;clear p0 hX4;refine (qZ _ d n _ _ _ _ _ _ _ _ ⟨O3.o.d.row,HX.o.2⟩ ⟨O3.o.a'.row,HY.o.2⟩ ⟨O3.o.b'.row,HZ.o.2⟩ ⟨O3.o.l.row,HQ.o.2⟩ bx by_ bz HLL.o bm HWF.o wfn (HS.o.below Bel.o) (HT.o.below Bel.o)).mono ?_;unfold qo RunIn;rw [HDD.o,HLsLs.o,HKK.o];unfold Ad;rintro e9 w5 ⟨a1,b1,e1,q1,d1,ca1,cb1,ce1,cq1,cd1,rfl,hin,hls,hdj,k⟩;have hsl:=hin.slx;replace Bel:=aab (aS Bel.o k (by omega));replace WA:=aab (WA.o.kept k (by omega));replace S0:=aab (S0.o.kept k (by omega));replace T0:=aab (T0.o.kept k (by omega));replace W0:=aab (W0.o.kept k (by omega));replace O3:=aab (O3.o.kept k (by omega));replace VA:=aab (VA.o.kept k (by omega));have nw5:=k.size;have S1:=aab hsl;have T1:=aab hls;have DJ1:=aab hdj;clear hls hdj;clear k hin hsl;have k:Kept 0 0 w5 (w5.alloc (.cells (cpA D a1 b1 e1 q1 ca1 cb1 ce1 cq1) 40)):=kept_alloc w5 _;replace Bel:=aab (aS Bel.o k (by omega));replace WA:=aab (WA.o.kept k (by omega));replace S0:=aab (S0.o.kept k (by omega));replace T0:=aab (T0.o.kept k (by omega));replace W0:=aab (W0.o.kept k (by omega));replace O3:=aab (O3.o.kept k (by omega));replace VA:=aab (VA.o.kept k (by omega));replace S1:=aab (S1.o.kept k (by omega));replace T1:=aab (T1.o.kept k (by omega));have W1:=aab (Blk.new w5 (cpA D a1 b1 e1 q1 ca1 cb1 ce1 cq1) 40);obtain ⟨X5,hX5⟩:∃X:World,(w5.alloc (.cells (cpA D a1 b1 e1 q1 ca1 cb1 ce1 cq1) 40))=X:=⟨_,rfl⟩
  have nX5:X5.heap.size=w5.heap.size+1:=by simp [<-hX5]
  rw [hX5] at Bel WA S0 T0 W0 O3 VA S1 T1 W1;clear k;have p0:=W1.o.all;have p1:=W0.o.all;go_wp2_with fail;clear p0 p1 hX5;refine (Ef _ D a1 b1 e1 q1 a0 b0 e0 q0 _ _ _ _ _ _ _ _ S1.o.d.row S1.o.a'.row S1.o.b'.row S1.o.l.row S0.o.d.row S0.o.a'.row S0.o.b'.row S0.o.l.row (by omega) (by omega) (by omega) HDL.o (by omega)).mono ?_;rintro e9 w6 ⟨rfl,k⟩;replace Bel:=aab (aS Bel.o k (by omega));replace WA:=aab (WA.o.kept k (by omega));replace S0:=aab (S0.o.kept k (by omega));replace T0:=aab (T0.o.kept k (by omega));replace W0:=aab (W0.o.kept k (by omega));replace O3:=aab (O3.o.kept k (by omega));replace VA:=aab (VA.o.kept k (by omega));replace S1:=aab (S1.o.kept k (by omega));replace T1:=aab (T1.o.kept k (by omega));replace W1:=aab (W1.o.kept k (by omega));have nw6:=k.size;clear k;go_wp2_with fail;refine (qB _ d1 d0 _ _ Ls Ls T1.o.row T0.o.row (by omega) (by omega)).mono ?_;rintro e9 w6l ⟨rfl,kg⟩;have k:=aT kg;clear kg;replace Bel:=aab (aS Bel.o k (by omega));replace WA:=aab (WA.o.kept k (by omega));replace S0:=aab (S0.o.kept k (by omega));replace T0:=aab (T0.o.kept k (by omega));replace W0:=aab (W0.o.kept k (by omega));replace O3:=aab (O3.o.kept k (by omega));replace VA:=aab (VA.o.kept k (by omega));replace S1:=aab (S1.o.kept k (by omega));replace T1:=aab (T1.o.kept k (by omega));replace W1:=aab (W1.o.kept k (by omega));have nw6l:=k.size;clear k;have p0:=WA.o.all;have p1:=VA.o.all;go_upto_region 10 with fail;go_cut [56,57,58,59,60] (fun _ _ _ _ t wx=>t=.bool false∧Kept 0 0 w6l wx)
  case first=>
   go_region_with (first|(go_at_call 14;refine (Di _ d a b e q ca cb ce cq (HX.o.below Bel.o.drew).1 (HY.o.below Bel.o.drew).1 (HZ.o.below Bel.o.drew).1 (HQ.o.below Bel.o.drew).1 bx by_ bz HLL.o bm).mono ?_;rintro e9 w7 ⟨g9,g10,g11,g12,rfl,hs9,kd⟩;have k:=aK kd;have u:=(VA.o.ae k).all;have P3:=aab (O3.o.kept k (by omega));have P5:=aab hs9;have K7:=aab k;clear k kd hs9)|(go_at_call 17;refine (Ef _ d _ _ _ _ _ _ _ _ _ _ _ _ _ _ _ _ P3.o.d.row P3.o.a'.row P3.o.b'.row P3.o.l.row P5.o.d.row P5.o.a'.row P5.o.b'.row P5.o.l.row bx by_ bz HLL.o bm).mono ?_;rintro e9 w8 ⟨rfl,k⟩;have K8:=aab (K7.o.trans k);clear k))
   all_goals
    go_wp2_with fail;go_meet
    case rel=>exact ⟨rfl,K8.o⟩
  case rest=>
   clear p0 p1;rename_i wx;obtain ⟨rfl,k⟩:=hcut;replace Bel:=aab (aS Bel.o k (by omega));replace WA:=aab (WA.o.kept k (by omega));replace S0:=aab (S0.o.kept k (by omega));replace T0:=aab (T0.o.kept k (by omega));replace W0:=aab (W0.o.kept k (by omega));replace O3:=aab (O3.o.kept k (by omega));replace VA:=aab (VA.o.kept k (by omega));replace S1:=aab (S1.o.kept k (by omega));replace T1:=aab (T1.o.kept k (by omega));replace W1:=aab (W1.o.kept k (by omega));have nwx:=k.size;clear k;have p0:=VA.o.all;go_wp2_with fail;clear p0;refine (zx _ X3.heap.size w4.heap.size d _ _ _ _ _ _ _ _ O3.o (by omega) bx by_ bz HLL.o bm).mono ?_;rintro e9 w9 ⟨rfl,_,k,_⟩;clear O3;replace Bel:=aab (aS Bel.o k (by omega));replace WA:=aab (WA.o.kept k (by omega));replace S0:=aab (S0.o.kept k (by omega));replace T0:=aab (T0.o.kept k (by omega));replace W0:=aab (W0.o.kept k (by omega));replace VA:=aab (VA.o.kept k (by omega));replace S1:=aab (S1.o.kept k (by omega));replace T1:=aab (T1.o.kept k (by omega));replace W1:=aab (W1.o.kept k (by omega));have nw9:=k.size;clear k;have hmk:¬(mkN d 1<0):=by unfold mkN;omega
   have p0:=W1.o.all;have p1:=W0.o.all;go_wp2_with fail;clear p0 p1;refine (Ef _ D a1 b1 e1 q1 a0 b0 e0 q0 _ _ _ _ _ _ _ _ S1.o.d.row S1.o.a'.row S1.o.b'.row S1.o.l.row S0.o.d.row S0.o.a'.row S0.o.b'.row S0.o.l.row (by omega) (by omega) (by omega) HDL.o (by omega)).mono ?_;rintro e9 w10 ⟨rfl,k⟩;replace Bel:=aab (aS Bel.o k (by omega));replace WA:=aab (WA.o.kept k (by omega));replace S0:=aab (S0.o.kept k (by omega));replace T0:=aab (T0.o.kept k (by omega));replace W0:=aab (W0.o.kept k (by omega));replace VA:=aab (VA.o.kept k (by omega));replace S1:=aab (S1.o.kept k (by omega));replace T1:=aab (T1.o.kept k (by omega));replace W1:=aab (W1.o.kept k (by omega));have nw10:=k.size;clear k;go_wp2_with fail;refine (qB _ d1 d0 _ _ Ls Ls T1.o.row T0.o.row (by omega) (by omega)).mono ?_;rintro e9 w10l ⟨rfl,kg⟩;have k:=aT kg;clear kg;replace Bel:=aab (aS Bel.o k (by omega));replace WA:=aab (WA.o.kept k (by omega));replace S0:=aab (S0.o.kept k (by omega));replace T0:=aab (T0.o.kept k (by omega));replace W0:=aab (W0.o.kept k (by omega));replace VA:=aab (VA.o.kept k (by omega));replace S1:=aab (S1.o.kept k (by omega));replace T1:=aab (T1.o.kept k (by omega));replace W1:=aab (W1.o.kept k (by omega));have nw10l:=k.size;clear k;have p0:=W1.o.all;go_wp2_with fail;clear p0;refine (zx _ X4.heap.size w5.heap.size D a1 b1 e1 q1 _ _ _ _ S1.o (by omega) (by omega) (by omega) (by omega) HDL.o (by omega)).mono ?_;rintro e9 w11 ⟨rfl,hm9,k,kb⟩;clear S1;have T1n:=aab (T1.o.at (fun z e=>kb z (by have:=T1.o.lN z e;omega) (DJ1.o z e).1 (DJ1.o z e).2.1 (DJ1.o z e).2.2.1 (DJ1.o z e).2.2.2));clear T1;replace Bel:=aab (aS Bel.o k (by omega));replace WA:=aab (WA.o.kept k (by omega));replace S0:=aab (S0.o.kept k (by omega));replace T0:=aab (T0.o.kept k (by omega));replace W0:=aab (W0.o.kept k (by omega));replace VA:=aab (VA.o.kept k (by omega));replace W1:=aab (W1.o.kept k (by omega));have M1:=aab hm9;have nw11:=k.size;clear k hm9 kb;have hmD:0<=mkN D 1∧mkN D 1<=100000:=by unfold mkN;omega
   obtain ⟨Q,hQ⟩:∃Q,Q=mkN D 1:=⟨_,rfl⟩
   rw [<-hQ] at hmD ⊢;have HQQ:=aab hQ;clear hQ;have hmE:¬(Q<0):=by omega
   go_wp2_with fail;refine (TI _ X4.heap.size w5.heap.size d1 _ Ls Q T1n.o (by omega) (by omega) (by omega)).mono ?_;rintro e9 w11l ⟨rfl,hm9,kg⟩;have k:Kept X4.heap.size w5.heap.size w11 w11l:=jU kg (fun g e=>T1n.o.lN g e);have M1n:=aab (M1.o.at (fun z e=>kg.block z (by have:=M1.o.in_ z e;omega) (fun e2=>by have:=DJ1.o z e2.symm;rcases e with e|e|e|e;exact this.1 e;exact this.2.1 e;exact this.2.2.1 e;exact this.2.2.2 e)));clear M1;replace Bel:=aab (aS Bel.o k (by omega));replace WA:=aab (WA.o.kept k (by omega));replace S0:=aab (S0.o.kept k (by omega));replace T0:=aab (T0.o.kept k (by omega));replace W0:=aab (W0.o.kept k (by omega));replace VA:=aab (VA.o.kept k (by omega));replace W1:=aab (W1.o.kept k (by omega));have M1:=M1n;have TM:=aab hm9;have nw11l:=k.size;clear k kg hm9 T1n M1n;have hmF:¬(Q+(Ls.length:Int)<0):=by omega
   have p0:=W1.o.all;go_wp2_with fail;clear p0;refine (DX _ D a1 b1 e1 q1 _ _ _ _ M1.o.d.row M1.o.a'.row M1.o.b'.row M1.o.l.row (by omega) (by omega) (by omega) (by omega)).mono ?_;rw [<-HQQ.o];rintro e9 w12 ⟨rfl,k⟩;replace Bel:=aab (aS Bel.o k (by omega));replace WA:=aab (WA.o.kept k (by omega));replace S0:=aab (S0.o.kept k (by omega));replace T0:=aab (T0.o.kept k (by omega));replace W0:=aab (W0.o.kept k (by omega));replace VA:=aab (VA.o.kept k (by omega));replace W1:=aab (W1.o.kept k (by omega));replace M1:=aab (M1.o.kept k (by omega));replace TM:=aab (TM.o.kept k (by omega));have nw12:=k.size;clear k;go_wp2_with fail;refine (oP _ d1 _ Ls.length Q TM.o.row (by omega) (by omega) (by omega)).mono ?_;rintro e9 w12l ⟨rfl,kg⟩;have k:=aT kg;clear kg;replace Bel:=aab (aS Bel.o k (by omega));replace WA:=aab (WA.o.kept k (by omega));replace S0:=aab (S0.o.kept k (by omega));replace T0:=aab (T0.o.kept k (by omega));replace W0:=aab (W0.o.kept k (by omega));replace VA:=aab (VA.o.kept k (by omega));replace W1:=aab (W1.o.kept k (by omega));replace M1:=aab (M1.o.kept k (by omega));replace TM:=aab (TM.o.kept k (by omega));have nw12l:=k.size;clear k;have p0:=WA.o.all;go_wp2_with fail;clear p0;refine (Di _ d a b e q ca cb ce cq (HX.o.below Bel.o).1 (HY.o.below Bel.o).1 (HZ.o.below Bel.o).1 (HQ.o.below Bel.o).1 bx by_ bz HLL.o bm).mono ?_;rintro e9 w13 ⟨h1,h2,h3,h4,rfl,hs9,k⟩;replace Bel:=aab (aS Bel.o k (by omega));replace WA:=aab (WA.o.kept k (by omega));replace S0:=aab (S0.o.kept k (by omega));replace T0:=aab (T0.o.kept k (by omega));replace W0:=aab (W0.o.kept k (by omega));replace VA:=aab (VA.o.kept k (by omega));replace W1:=aab (W1.o.kept k (by omega));replace M1:=aab (M1.o.kept k (by omega));replace TM:=aab (TM.o.kept k (by omega));have nw13:=k.size;have O5:=aab hs9;clear k hs9;go_wp2_with fail;refine (qZ _ d n _ _ _ _ _ _ _ _ ⟨O5.o.d.row,HX.o.2⟩ ⟨O5.o.a'.row,HY.o.2⟩ ⟨O5.o.b'.row,HZ.o.2⟩ ⟨O5.o.l.row,HQ.o.2⟩ bx by_ bz HLL.o bm HWF.o wfn (HS.o.below Bel.o) (HT.o.below Bel.o)).mono ?_;unfold qo RunIn;rw [HDD.o,HLsLs.o,HKK.o];unfold Ad;rintro e9 w14 ⟨a2,b2,e2,q2,d2,ca2,cb2,ce2,cq2,cd2,rfl,hin,hls,hdj,k⟩;have hsl:=hin.slx;replace Bel:=aab (aS Bel.o k (by omega));replace WA:=aab (WA.o.kept k (by omega));replace S0:=aab (S0.o.kept k (by omega));replace T0:=aab (T0.o.kept k (by omega));replace W0:=aab (W0.o.kept k (by omega));replace VA:=aab (VA.o.kept k (by omega));replace W1:=aab (W1.o.kept k (by omega));replace M1:=aab (M1.o.kept k (by omega));replace TM:=aab (TM.o.kept k (by omega));replace O5:=aab (O5.o.kept k (by omega));have nw14:=k.size;have S2:=aab hsl;have T2:=aab hls;have DJ2:=aab hdj;clear hls hdj;clear k hin hsl;clear O5;have k:Kept 0 0 w14 (w14.alloc (.cells (cpA D a2 b2 e2 q2 ca2 cb2 ce2 cq2) 40)):=kept_alloc w14 _;replace Bel:=aab (aS Bel.o k (by omega));replace WA:=aab (WA.o.kept k (by omega));replace S0:=aab (S0.o.kept k (by omega));replace T0:=aab (T0.o.kept k (by omega));replace W0:=aab (W0.o.kept k (by omega));replace VA:=aab (VA.o.kept k (by omega));replace W1:=aab (W1.o.kept k (by omega));replace M1:=aab (M1.o.kept k (by omega));replace TM:=aab (TM.o.kept k (by omega));replace S2:=aab (S2.o.kept k (by omega));replace T2:=aab (T2.o.kept k (by omega));have W2:=aab (Blk.new w14 (cpA D a2 b2 e2 q2 ca2 cb2 ce2 cq2) 40);obtain ⟨X14,hX14⟩:∃X:World,(w14.alloc (.cells (cpA D a2 b2 e2 q2 ca2 cb2 ce2 cq2) 40))=X:=⟨_,rfl⟩
   have nX14:X14.heap.size=w14.heap.size+1:=by simp [<-hX14]
   rw [hX14] at Bel WA S0 T0 W0 VA W1 M1 TM S2 T2 W2;clear k;have p0:=W2.o.all;have p1:=W0.o.all;go_wp2_with fail;clear p0 p1 hX14;refine (Ef _ D a2 b2 e2 q2 a0 b0 e0 q0 _ _ _ _ _ _ _ _ S2.o.d.row S2.o.a'.row S2.o.b'.row S2.o.l.row S0.o.d.row S0.o.a'.row S0.o.b'.row S0.o.l.row (by omega) (by omega) (by omega) HDL.o (by omega)).mono ?_;rintro e9 w15 ⟨rfl,k⟩;replace Bel:=aab (aS Bel.o k (by omega));replace WA:=aab (WA.o.kept k (by omega));replace S0:=aab (S0.o.kept k (by omega));replace T0:=aab (T0.o.kept k (by omega));replace W0:=aab (W0.o.kept k (by omega));replace VA:=aab (VA.o.kept k (by omega));replace W1:=aab (W1.o.kept k (by omega));replace M1:=aab (M1.o.kept k (by omega));replace TM:=aab (TM.o.kept k (by omega));replace S2:=aab (S2.o.kept k (by omega));replace T2:=aab (T2.o.kept k (by omega));replace W2:=aab (W2.o.kept k (by omega));have nw15:=k.size;clear k;go_wp2_with fail;refine (qB _ d2 d0 _ _ Ls Ls T2.o.row T0.o.row (by omega) (by omega)).mono ?_;rintro e9 w15l ⟨rfl,kg⟩;have k:=aT kg;clear kg;replace Bel:=aab (aS Bel.o k (by omega));replace WA:=aab (WA.o.kept k (by omega));replace S0:=aab (S0.o.kept k (by omega));replace T0:=aab (T0.o.kept k (by omega));replace W0:=aab (W0.o.kept k (by omega));replace VA:=aab (VA.o.kept k (by omega));replace W1:=aab (W1.o.kept k (by omega));replace M1:=aab (M1.o.kept k (by omega));replace TM:=aab (TM.o.kept k (by omega));replace S2:=aab (S2.o.kept k (by omega));replace T2:=aab (T2.o.kept k (by omega));replace W2:=aab (W2.o.kept k (by omega));have nw15l:=k.size;clear k;have p0:=W1.o.all;go_wp2_with fail;clear p0;refine (DX _ D a1 b1 e1 q1 _ _ _ _ M1.o.d.row M1.o.a'.row M1.o.b'.row M1.o.l.row (by omega) (by omega) (by omega) (by omega)).mono ?_;rw [<-HQQ.o];rintro e9 w16 ⟨rfl,k⟩;replace Bel:=aab (aS Bel.o k (by omega));replace WA:=aab (WA.o.kept k (by omega));replace S0:=aab (S0.o.kept k (by omega));replace T0:=aab (T0.o.kept k (by omega));replace W0:=aab (W0.o.kept k (by omega));replace VA:=aab (VA.o.kept k (by omega));replace W1:=aab (W1.o.kept k (by omega));replace M1:=aab (M1.o.kept k (by omega));replace TM:=aab (TM.o.kept k (by omega));replace S2:=aab (S2.o.kept k (by omega));replace T2:=aab (T2.o.kept k (by omega));replace W2:=aab (W2.o.kept k (by omega));have nw16:=k.size;clear k;go_wp2_with fail;refine (oP _ d1 _ Ls.length Q TM.o.row (by omega) (by omega) (by omega)).mono ?_;rintro e9 w16l ⟨rfl,kg⟩;have k:=aT kg;clear kg;replace Bel:=aab (aS Bel.o k (by omega));replace WA:=aab (WA.o.kept k (by omega));replace S0:=aab (S0.o.kept k (by omega));replace T0:=aab (T0.o.kept k (by omega));replace W0:=aab (W0.o.kept k (by omega));replace VA:=aab (VA.o.kept k (by omega));replace W1:=aab (W1.o.kept k (by omega));replace M1:=aab (M1.o.kept k (by omega));replace TM:=aab (TM.o.kept k (by omega));replace S2:=aab (S2.o.kept k (by omega));replace T2:=aab (T2.o.kept k (by omega));replace W2:=aab (W2.o.kept k (by omega));have nw16l:=k.size;clear k;go_wp2_with fail;go_ret;exact ⟨rfl,Bel.o⟩
theorem Ry:prog.globalNamed "loop.example/g00389/impl.digitSums" = some 0:=by kernel_rfl
theorem J9:prog.globalNamed "loop.example/g00389/impl.ninesLess" = some 1:=by kernel_rfl
theorem VO:(prog.globals[0]?).map (·.type)=some 292:=by kernel_rfl
theorem Sr:(prog.globals[1]?).map (·.type)=some 293:=by kernel_rfl
theorem Xq:prog.cellsOf 3=1:=by kernel_rfl
theorem Xo:prog.cellsOf 292=20:=by kernel_rfl
theorem UK:prog.cellsOf 293=10:=by kernel_rfl
def H9:List Int:=[0,1,2,3,4,5,6,7,8,9,16,17,18,19,20,21,22,23,24,25]
def BK:List Int:=[9,8,7,6,5,4,3,2,1,0]
theorem H8:∀i:Nat,i<20->H9.getD i 0=(i:Int)/10*16+(i:Int)%10:=by decide
theorem Fp:∀i:Nat,i<10->BK.getD i 0=9-(i:Int):=by decide
theorem NI {W:World} {rest:List (String × DataW Unit)} (h:laidMet prog (("loop.example/g00389/impl.digitSums",Rows.laid_loop_example_g00389_impl_digitSums) :: rest) W):ny W:=by
 have hT:Lib.TabIs prog W "loop.example/g00389/impl.digitSums" .i64 H9:=Lib.tabIs_of_head (rest:=rest) Ry VO underlying292 underlying3 Xq Xo h;intro i hi;rw [hT.cell Ry i (by simpa [H9] using hi),H8 i hi]
theorem NJ {W:World} {rest:List (String × DataW Unit)} (h:laidMet prog (("loop.example/g00389/impl.ninesLess",Rows.laid_loop_example_g00389_impl_ninesLess) :: rest) W):qG W:=by
 have hT:Lib.TabIs prog W "loop.example/g00389/impl.ninesLess" .i64 BK:=Lib.tabIs_of_head (rest:=rest) J9 Sr underlying293 underlying3 Xq UK h;intro i hi;rw [hT.cell J9 i (by simpa [BK] using hi),Fp i hi]
theorem NH {W:World} (h:laidMetH prog [("loop.example/g00389/impl.digitSums",Rows.laid_loop_example_g00389_impl_digitSums),("loop.example/g00389/impl.ninesLess",Rows.laid_loop_example_g00389_impl_ninesLess)] W):ny W∧qG W:=by
 rw [MakeChecks.laidMetH_plain _ _ _ (by kernel_rfl)] at h;exact ⟨NI h,NJ h.tail⟩
open Go.RowKit Go.WideShapes Go.ChangeShapes Go.ChangeAt
set_option linter.unusedSimpArgs false
theorem Tryz.vZ:prog.cellsOf 3=1:=by kernel_rfl
theorem Tryz.LZ:prog.cellsOf 193=5:=by kernel_rfl
theorem Tryz.LW:prog.cellsOf 27=2:=by kernel_rfl
theorem Tryz.xn:prog.cellsOf 4=1:=by kernel_rfl
theorem Tryz.xm:prog.cellsOf 22=1:=by kernel_rfl
theorem Tryz.Gs:prog.cellsOf 25=1:=by kernel_rfl
theorem Tryz.Gq:prog.cellsOf 24=8:=by kernel_rfl
theorem Tryz.LV:prog.cellsOf 29=12:=by kernel_rfl
theorem Addr.Az (a:Addr) (i j:Nat):(a.add i).add j=a.add (i+j):=by
 unfold Addr.add;by_cases hi:i=0<;>by_cases hj:j=0<;>simp [hi,hj,Nat.add_assoc]
theorem Ej {w:World} {x:Addr} {n:Nat} (h:∀i,i<n->∃z:Int,w.cell? (x.add i)=some (iv z)∧(Lit.int .i64 z).wf=true):∃xs:List Int,xs.length=n∧Came w (some x) xs:=by
 obtain ⟨f,hf⟩:=Go.Deep.choose_lt h;refine ⟨(List.range n).map f,by simp,?_,?_⟩
 ·intro i hi;have hi':i<n:=by simpa using hi
  obtain ⟨g,off,spot⟩:=x;have hspot:spot=none:=by simpa [Addr.add] using World.cell?_spot (hf 0 (by omega)).1
  subst hspot;refine ⟨g,off,rfl,?_⟩;have hc:=(hf i hi').1;by_cases h0:i=0
  ·subst h0;simpa [Addr.add,hi'] using hc
  ·simpa [Addr.add,h0,hi'] using hc
 ·intro i hi;have hi':i<n:=by simpa using hi
  have:=bounds_i64 (hf i hi').2
  simpa [hi'] using this
section
variable {H:Type} {enc:TypeId × Value->H} {w:World} {base:Nat} {spare:Nat->Bool} {held:Bool}
theorem oL {fuel:Nat} {v:Value} {y:DataW H × List MemPlace} (h:DataW.trod enc prog w base spare held fuel 22 [v]=some y) :
  ∃(a:Option Addr) (cap:Nat) (xs:List Int),v=.slice a xs.length cap∧Came w a xs∧xs.length<=maxLen:=by
 rcases open_ints underlying22 underlying3 Tryz.vZ h with ⟨hc,_⟩|⟨x,len,cap,zs,hc,_,hl,hm,hz,_,hcell,hwz⟩
 ·simp at hc
  exact ⟨none,0,[],hc,⟨fun i hi=>absurd hi (Nat.not_lt_zero i),fun i hi=>absurd hi (Nat.not_lt_zero i)⟩,Nat.zero_le _⟩
 ·simp at hc
  have hlen:len<=zs.length:=by rw [hz];split<;>omega
  obtain ⟨xs,rfl,hx⟩:=Ej (w:=w) (x:=x) (n:=len) (fun i hi=>⟨zs.getD i 0,hcell i (by omega),hwz _ (by
   have:i<zs.length:=by omega
   simp [List.getD,this])⟩)
  exact ⟨some x,cap,xs,hc,hx,by omega⟩
theorem zo {fuel:Nat} {v:Value} {y:DataW H × List MemPlace} (h:DataW.trod enc prog w base spare held fuel 25 [v]=some y) :
  ∃(a:Option Addr) (m cap:Nat) (ys:List Int),v=.slice a m cap∧Came w a ys∧ys.length=5*m∧m<=maxLen:=by
 rcases Go.Deep.open_slice underlying25 h with ⟨hc,_⟩|⟨x,len,cap,m,n,D,Pl,hc,_,hl,hm,hmm,_,hel⟩
 ·simp at hc
  exact ⟨none,0,0,[],hc,⟨fun i hi=>absurd hi (Nat.not_lt_zero i),fun i hi=>absurd hi (Nat.not_lt_zero i)⟩,rfl,Nat.zero_le _⟩
 ·simp at hc
  have hlen:len<=m:=by rw [hmm];split<;>omega
  obtain ⟨ys,hy,hx⟩:=Ej (w:=w) (x:=x) (n:=5*len) (by
   intro i hi;obtain ⟨cs',h1,h2⟩:=hel (i/5) (by omega);rw [Tryz.LZ] at h1;obtain ⟨_,hl5,hcs⟩:=World.cells?_some h1;obtain ⟨zs,k,_,_,_,hzl,hf⟩:=DataW.trod_struct underlying193 h2;have hget:=hcs (i%5) (by omega);rw [Addr.Az,show i/5*5+i%5=i from by omega] at hget;rw [hget]
   obtain ⟨c0,c1,c2,c3,c4,rfl⟩:∃c0 c1 c2 c3 c4,cs'=[c0,c1,c2,c3,c4]:=by
    match cs',hl5 with
    | [c0,c1,c2,c3,c4],_=>exact ⟨c0,c1,c2,c3,c4,rfl⟩
   obtain ⟨z0,z1,z2,z3,z4,rfl⟩:∃z0 z1 z2 z3 z4,zs=[z0,z1,z2,z3,z4]:=by
    match zs,hzl with
    | [z0,z1,z2,z3,z4],_=>exact ⟨z0,z1,z2,z3,z4,rfl⟩
   have t0:=hf 0 _ rfl;have t1:=hf 1 _ rfl;have t2:=hf 2 _ rfl;have t3:=hf 3 _ rfl;have t4:=hf 4 _ rfl;simp [Tryz.vZ] at t0 t1 t2 t3 t4;obtain ⟨n0,e0,_,b0⟩:=DataW.trod_int underlying3 t0;obtain ⟨n1,e1,_,b1⟩:=DataW.trod_int underlying3 t1;obtain ⟨n2,e2,_,b2⟩:=DataW.trod_int underlying3 t2;obtain ⟨n3,e3,_,b3⟩:=DataW.trod_int underlying3 t3;obtain ⟨n4,e4,_,b4⟩:=DataW.trod_int underlying3 t4;simp at e0 e1 e2 e3 e4;subst e0 e1 e2 e3 e4;obtain h|h|h|h|h:i%5=0∨i%5=1∨i%5=2∨i%5=3∨i%5=4:=by omega
   all_goals rw [h]
   ·exact ⟨n0,rfl,b0⟩
   ·exact ⟨n1,rfl,b1⟩
   ·exact ⟨n2,rfl,b2⟩
   ·exact ⟨n3,rfl,b3⟩
   ·exact ⟨n4,rfl,b4⟩)
  exact ⟨some x,len,cap,ys,hc,hx,hy,by omega⟩
theorem Jf {r:Reach} {b0:Nat} {v:Value} {d:DataW H} {p:List MemPlace} (hv:Value.okWide prog w r b0 29 v) (h:DataW.Trod enc prog w base spare held 29 v d p) :
  ∃(a0:Option Addr) (c0:Nat) (x0:List Int) (a1:Option Addr) (c1:Nat) (x1:List Int) (i2 i3 i4 i5:Int) (i6 i7:Bool) (a8:Option Addr) (c8:Nat) (x8:List Int) (a9:Option Addr) (m9 c9:Nat) (x9:List Int) (i10 i11:Bool),v=.agg #[.slice a0 x0.length c0,.slice a1 x1.length c1,iv i2,iv i3,iv i4,iv i5,.bool i6,.bool i7,.slice a8 x8.length c8,.slice a9 m9 c9,.bool i10,.bool i11]∧(Came w a0 x0∧x0.length<=maxLen)∧(Came w a1 x1∧x1.length<=maxLen)∧(Lit.int .i64 i2).wf=true∧(Lit.int .i64 i3).wf=true∧(Lit.int .i64 i4).wf=true∧(Lit.int .i64 i5).wf=true∧(Came w a8 x8∧x8.length<=maxLen)∧(Came w a9 x9∧x9.length=5*m9∧m9<=maxLen):=by
 obtain ⟨cs,rfl,hsz⟩:=okWide_struct underlying29 hv;rw [Tryz.LV] at hsz;obtain ⟨cl⟩:=cs
 obtain ⟨c_0,c_1,c_2,c_3,c_4,c_5,c_6,c_7,c_8,c_9,Qj,Qi,rfl⟩:∃c_0 c_1 c_2 c_3 c_4 c_5 c_6 c_7 c_8 c_9 Qj Qi,cl=[c_0,c_1,c_2,c_3,c_4,c_5,c_6,c_7,c_8,c_9,Qj,Qi]:=by
  match cl,hsz with
  | [c_0,c_1,c_2,c_3,c_4,c_5,c_6,c_7,c_8,c_9,Qj,Qi],_=>exact ⟨c_0,c_1,c_2,c_3,c_4,c_5,c_6,c_7,c_8,c_9,Qj,Qi,rfl⟩
 obtain ⟨fuel,hf0⟩:=h;obtain ⟨zs,k,_,_,_,hzl,hf⟩:=DataW.trod_struct underlying29 hf0
 obtain ⟨y_0,y_1,y_2,y_3,rfl⟩:∃y_0 y_1 y_2 y_3,zs=[y_0,y_1,y_2,y_3]:=by
  match zs,hzl with
  | [y_0,y_1,y_2,y_3],_=>exact ⟨y_0,y_1,y_2,y_3,rfl⟩
 have s0:=hf 0 _ rfl;have s1:=hf 1 _ rfl;have s2:=hf 2 _ rfl;have s3:=hf 3 _ rfl;simp [Value.cells,Tryz.Gq,Tryz.LW,Tryz.xn] at s0 s1 s2 s3;obtain ⟨zs,k2,_,_,_,hzl,hr⟩:=DataW.trod_struct underlying24 s0
 obtain ⟨z_0,z_1,z_2,z_3,z_4,z_5,z_6,z_7,rfl⟩:∃z_0 z_1 z_2 z_3 z_4 z_5 z_6 z_7,zs=[z_0,z_1,z_2,z_3,z_4,z_5,z_6,z_7]:=by
  match zs,hzl with
  | [z_0,z_1,z_2,z_3,z_4,z_5,z_6,z_7],_=>exact ⟨z_0,z_1,z_2,z_3,z_4,z_5,z_6,z_7,rfl⟩
 have t0:=hr 0 _ rfl;have t1:=hr 1 _ rfl;have t2:=hr 2 _ rfl;have t3:=hr 3 _ rfl;have t4:=hr 4 _ rfl;have t5:=hr 5 _ rfl;have t6:=hr 6 _ rfl;have t7:=hr 7 _ rfl;simp [Value.cells,Tryz.vZ,Tryz.xn,Tryz.xm] at t0 t1 t2 t3 t4 t5 t6 t7;obtain ⟨zs,k3,_,_,_,hzl,hb⟩:=DataW.trod_struct underlying27 s1
 obtain ⟨x_0,x_1,rfl⟩:∃x_0 x_1,zs=[x_0,x_1]:=by
  match zs,hzl with
  | [x_0,x_1],_=>exact ⟨x_0,x_1,rfl⟩
 have t8:=hb 0 _ rfl;have t9:=hb 1 _ rfl;simp [Value.cells,Tryz.xm,Tryz.Gs] at t8 t9;obtain ⟨a0,c0,x0,q0,hx0,lx0⟩:=oL t0;obtain ⟨a1,c1,x1,q1,hx1,lx1⟩:=oL t1;obtain ⟨i2,q2,_,wf2⟩:=DataW.trod_int underlying3 t2;obtain ⟨i3,q3,_,wf3⟩:=DataW.trod_int underlying3 t3;obtain ⟨i4,q4,_,wf4⟩:=DataW.trod_int underlying3 t4;obtain ⟨i5,q5,_,wf5⟩:=DataW.trod_int underlying3 t5;obtain ⟨i6,q6,_⟩:=DataW.trod_bool underlying4 t6;obtain ⟨i7,q7,_⟩:=DataW.trod_bool underlying4 t7;obtain ⟨a8,c8,x8,q8,hx8,lx8⟩:=oL t8;obtain ⟨a9,m9,c9,x9,q9,hx9,ly9,lm9⟩:=zo t9;obtain ⟨i10,q10,_⟩:=DataW.trod_bool underlying4 s2;obtain ⟨i11,q11,_⟩:=DataW.trod_bool underlying4 s3;simp at q0 q1 q2 q3 q4 q5 q6 q7 q8 q9 q10 q11;subst q0 q1 q2 q3 q4 q5 q6 q7 q8 q9 q10 q11;exact ⟨a0,c0,x0,a1,c1,x1,i2,i3,i4,i5,i6,i7,a8,c8,x8,a9,m9,c9,x9,i10,i11,rfl,⟨hx0,lx0⟩,⟨hx1,lx1⟩,wf2,wf3,wf4,wf5,⟨hx8,lx8⟩,⟨hx9,ly9,lm9⟩⟩
end
end Go.Proofs.YtgikibaajanjiaaGreatDoor
