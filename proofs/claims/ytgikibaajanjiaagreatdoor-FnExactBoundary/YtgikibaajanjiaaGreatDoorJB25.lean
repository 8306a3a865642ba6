/- Part 25 of what the last text leans on. -/
import Derived.Test.YtgikibaajanjiaaGreatDoorJB24
import Derived.Test.YtgikibaajanjiaaGreatDoorJB5
import Derived.Deep.DeepCutAuto
import Derived.Test.YtgikibaajanjiaaGreatDoorRows
import Derived.Test.YtgikibaajanjiaaGreatDoorJB20
import Derived.Lib.LaidTab
import Derived.Stop.LaidErr
import Derived.LaidMore
import Derived.Test.YtgikibaajanjiaaGreatDoorJB1
import Derived.Lib.SmallJoins
import Derived.Deep.Slices
import Derived.ProofKit
import Derived.OpenShut
set_option maxRecDepth 100000
set_option maxHeartbeats 16000000
namespace Go.Proofs.YtgikibaajanjiaaGreatDoor
open Pl
open Go.RowKit Go.Proofs.Tryz
set_option linter.unusedVariables false
theorem zI (d:Iq) (a b e q:Option Addr) (ca cb ce cq:Nat) (w:World) (ht:nV w) (hn:rQ w) (hx:Came w a d.c.r.xs) (hy:Came w b d.c.r.ys) (hz:Came w e d.c.bx) (hq:Came w q d.c.bl) (lx:d.c.r.xs.length<=9223372036854775807) (ly:d.c.r.ys.length<=9223372036854775807) (lz:d.c.bx.length<=9223372036854775807) (lm:d.c.bm<=9223372036854775807) (ll:d.c.bl.length=5*d.c.bm) (wfd:WfR d.c.r) (wfl:(Lit.int .i64 d.l).wf=true) :
  Calls prog 9 #[.agg (irA d a b e q ca cb ce cq)] w fun e w'=>e=.returned (.bool true)∧Below w.heap.size w w':=by
 have HX:=aaA hx;have HY:=aaA hy;have HZ:=aaA hz;have HQ:=aaA hq;have HWF:=aaA wfd;have HLL:=aaA ll;have HS:=aaA ht;have HT:=aaA hn;have Bel:=aaA (kept_alloc w (.cells (irA d a b e q ca cb ce cq) 78)).below;have WA:=aaA (Blk.new w (irA d a b e q ca cb ce cq) 78);obtain ⟨X0,hX0⟩:∃X:World,w.alloc (.cells (irA d a b e q ca cb ce cq) 78)=X:=⟨_,rfl⟩
 have nX0:X0.heap.size=w.heap.size+1:=by simp [<-hX0]
 rw [hX0] at Bel WA;have hln:=Vq d ll;clear hx hy hz hq wfd ll ht hn;by_cases hs:szC d.c.r.xs.length d.c.r.ys.length d.c.bx.length d.c.bm 1048576<0
 ·have HSZ:=aaA hs;go_enter func9,ntmps9;have p0:=WA.o.all;go_wp2_with fail;refine (Rt _ d a b e q ca cb ce cq 1048576 lx ly lz lm (by decide) (by decide)).mono ?_;rintro e9 w1 ⟨⟨sv,rfl,hsv⟩,k⟩;have ds:sv<0:=hsv.2 (by have h2:=HSZ.o;omega);clear hsv;have Bn:=aaA (bg Bel.o k (by omega));clear k;go_wp2_with fail;go_ret;exact ⟨rfl,Bn.o⟩
 ·have HSZ:=aaA hs;have hb:=N7 hs;have bx:d.c.r.xs.length<=2000000:=by omega
  have by_:d.c.r.ys.length<=2000000:=by omega
  have bz:d.c.bx.length<=2000000:=by omega
  have bm:d.c.bm<=2000000:=by omega
  clear hb;generalize hDD:bqX d=D at hln;generalize hVV:bqV d=V;generalize hKK:kL d=K;obtain ⟨bD,bE,bF,bL,bM⟩:=hln;have HDL:=aaA bL;clear bL;have HDD:=aaA hDD;have HVV:=aaA hVV;have HKK:=aaA hKK;clear hDD hVV hKK;go_enter func9,ntmps9;have p0:=WA.o.all;go_wp2_with fail;clear p0;refine (Rt _ d a b e q ca cb ce cq 1048576 lx ly lz lm (by decide) (by decide)).mono ?_;rintro e9 w1 ⟨⟨sv,rfl,hsv⟩,k⟩;have ds:¬sv<0:=fun h=>by have h1:=hsv.1 h;have h2:=HSZ.o;omega
  clear hsv;replace Bel:=aaA (bg Bel.o k (by omega));replace WA:=aaA (WA.o.kept k (by omega));have nw1:=k.size;clear k;clear hX0 hs;have p0:=WA.o.all;go_wp2_with fail;clear p0 ds;refine (Dq _ d a b e q ca cb ce cq (HX.o.below Bel.o).1 (HY.o.below Bel.o).1 (HZ.o.below Bel.o).1 (HQ.o.below Bel.o).1 bx by_ bz HLL.o bm).mono ?_;rintro e9 w2 ⟨g1,g2,g3,g4,rfl,hs9,k⟩;replace Bel:=aaA (bg Bel.o k (by omega));replace WA:=aaA (WA.o.kept k (by omega));have nw2:=k.size;have O1:=aaA hs9;clear k hs9;go_wp2_with fail;refine (xC _ d _ _ _ _ _ _ _ _ O1.o.d.row O1.o.a'.row O1.o.b'.row O1.o.l.row bx by_ bz HLL.o bm).mono ?_;rw [HDD.o,HVV.o,HKK.o];rintro e9 w3 ⟨a0,b0,e0,q0,ca0,cb0,ce0,cq0,rfl,hin,k⟩;have hsl:=hin.slx;replace Bel:=aaA (bg Bel.o k (by omega));replace WA:=aaA (WA.o.kept k (by omega));replace O1:=aaA (O1.o.kept k (by omega));have nw3:=k.size;have S0:=aaA hsl;clear k hin hsl;clear O1;have k:Kept 0 0 w3 (w3.alloc (.cells (irA D a0 b0 e0 q0 ca0 cb0 ce0 cq0) 81)):=kept_alloc w3 _;replace Bel:=aaA (bg Bel.o k (by omega));replace WA:=aaA (WA.o.kept k (by omega));replace S0:=aaA (S0.o.kept k (by omega));have W0:=aaA (Blk.new w3 (irA D a0 b0 e0 q0 ca0 cb0 ce0 cq0) 81);obtain ⟨X3,hX3⟩:∃X:World,(w3.alloc (.cells (irA D a0 b0 e0 q0 ca0 cb0 ce0 cq0) 81))=X:=⟨_,rfl⟩
  have nX3:X3.heap.size=w3.heap.size+1:=by simp [<-hX3]
  rw [hX3] at Bel WA S0 W0;clear k;have p0:=WA.o.all;go_wp2_with fail;clear p0 hX3;refine (Dq _ d a b e q ca cb ce cq (HX.o.below Bel.o).1 (HY.o.below Bel.o).1 (HZ.o.below Bel.o).1 (HQ.o.below Bel.o).1 bx by_ bz HLL.o bm).mono ?_;rintro e9 w4 ⟨g5,g6,g7,g8,rfl,hs9,k⟩;replace Bel:=aaA (bg Bel.o k (by omega));replace WA:=aaA (WA.o.kept k (by omega));replace S0:=aaA (S0.o.kept k (by omega));replace W0:=aaA (W0.o.kept k (by omega));have nw4:=k.size;have O3:=aaA hs9;clear k hs9;have k:Kept 0 0 w4 (w4.alloc (.cells (irA d (some (aaB g5 0)) (some (aaB g6 0)) (some (aaB g7 0)) (some (aaB g8 0)) d.c.r.xs.length d.c.r.ys.length d.c.bx.length d.c.bm) 81)):=kept_alloc w4 _;replace Bel:=aaA (bg Bel.o k (by omega));replace WA:=aaA (WA.o.kept k (by omega));replace S0:=aaA (S0.o.kept k (by omega));replace W0:=aaA (W0.o.kept k (by omega));replace O3:=aaA (O3.o.kept k (by omega));have VA:=aaA (Blk.new w4 (irA d (some (aaB g5 0)) (some (aaB g6 0)) (some (aaB g7 0)) (some (aaB g8 0)) d.c.r.xs.length d.c.r.ys.length d.c.bx.length d.c.bm) 81);obtain ⟨X4,hX4⟩:∃X:World,(w4.alloc (.cells (irA d (some (aaB g5 0)) (some (aaB g6 0)) (some (aaB g7 0)) (some (aaB g8 0)) d.c.r.xs.length d.c.r.ys.length d.c.bx.length d.c.bm) 81))=X:=⟨_,rfl⟩
  have nX4:X4.heap.size=w4.heap.size+1:=by simp [<-hX4]
  rw [hX4] at Bel WA S0 W0 O3 VA;clear k;have p0:=VA.o.all;go_wp2_with fail;clear p0 hX4;refine (ry _ d _ _ _ _ _ _ _ _ ⟨O3.o.d.row,HX.o.2⟩ ⟨O3.o.a'.row,HY.o.2⟩ ⟨O3.o.b'.row,HZ.o.2⟩ ⟨O3.o.l.row,HQ.o.2⟩ bx by_ bz HLL.o bm HWF.o (HS.o.below Bel.o) (HT.o.below Bel.o)).mono ?_;rw [HDD.o,HVV.o,HKK.o];rintro e9 w5 ⟨a1,b1,e1,q1,ca1,cb1,ce1,cq1,rfl,hin,k⟩;have hsl:=hin.slx;replace Bel:=aaA (bg Bel.o k (by omega));replace WA:=aaA (WA.o.kept k (by omega));replace S0:=aaA (S0.o.kept k (by omega));replace W0:=aaA (W0.o.kept k (by omega));replace O3:=aaA (O3.o.kept k (by omega));replace VA:=aaA (VA.o.kept k (by omega));have nw5:=k.size;have S1:=aaA hsl;clear k hin hsl;have k:Kept 0 0 w5 (w5.alloc (.cells (irA D a1 b1 e1 q1 ca1 cb1 ce1 cq1) 81)):=kept_alloc w5 _;replace Bel:=aaA (bg Bel.o k (by omega));replace WA:=aaA (WA.o.kept k (by omega));replace S0:=aaA (S0.o.kept k (by omega));replace W0:=aaA (W0.o.kept k (by omega));replace O3:=aaA (O3.o.kept k (by omega));replace VA:=aaA (VA.o.kept k (by omega));replace S1:=aaA (S1.o.kept k (by omega));have W1:=aaA (Blk.new w5 (irA D a1 b1 e1 q1 ca1 cb1 ce1 cq1) 81);obtain ⟨X5,hX5⟩:∃X:World,(w5.alloc (.cells (irA D a1 b1 e1 q1 ca1 cb1 ce1 cq1) 81))=X:=⟨_,rfl⟩
  have nX5:X5.heap.size=w5.heap.size+1:=by simp [<-hX5]
  rw [hX5] at Bel WA S0 W0 O3 VA S1 W1;clear k;have p0:=W1.o.all;have p1:=W0.o.all;go_wp2_with fail;clear p0 p1 hX5;refine (Em _ D a1 b1 e1 q1 _ _ _ _ a0 b0 e0 q0 _ _ _ _ S1.o.d.row S1.o.a'.row S1.o.b'.row S1.o.l.row S0.o.d.row S0.o.a'.row S0.o.b'.row S0.o.l.row (by omega) (by omega) (by omega) HDL.o (by omega)).mono ?_;rintro e9 w6 ⟨rfl,k⟩;replace Bel:=aaA (bg Bel.o k (by omega));replace WA:=aaA (WA.o.kept k (by omega));replace S0:=aaA (S0.o.kept k (by omega));replace W0:=aaA (W0.o.kept k (by omega));replace O3:=aaA (O3.o.kept k (by omega));replace VA:=aaA (VA.o.kept k (by omega));replace S1:=aaA (S1.o.kept k (by omega));replace W1:=aaA (W1.o.kept k (by omega));have nw6:=k.size;clear k;have p0:=WA.o.all;have p1:=VA.o.all;go_upto_region 10 with fail;go_cut [51,52,53,54,55] (fun _ _ _ _ t wx=>t=.bool false∧Kept 0 0 w6 wx)
  case first=>
   as_aux_lemma=>
    go_region_with (first|(go_at_call 43;refine (Dq _ d a b e q ca cb ce cq (HX.o.below Bel.o.drew).1 (HY.o.below Bel.o.drew).1 (HZ.o.below Bel.o.drew).1 (HQ.o.below Bel.o.drew).1 bx by_ bz HLL.o bm).mono ?_;rintro e9 w7 ⟨g9,g10,g11,g12,rfl,hs9,kd⟩;have k:=aK kd;have u:=(VA.o.ae k).all;have P3:=aaA (O3.o.kept k (by omega));have P5:=aaA hs9;have K7:=aaA k;clear k kd hs9)|(go_at_call 45;refine (Em _ d _ _ _ _ _ _ _ _ _ _ _ _ _ _ _ _ P3.o.d.row P3.o.a'.row P3.o.b'.row P3.o.l.row P5.o.d.row P5.o.a'.row P5.o.b'.row P5.o.l.row bx by_ bz HLL.o bm).mono ?_;rintro e9 w8 ⟨rfl,k⟩;have K8:=aaA (K7.o.trans k);clear k))
    all_goals
     go_wp2_with fail;go_meet
     case rel=>exact ⟨rfl,K8.o⟩
  case rest=>
   as_aux_lemma=>
    clear p0 p1;rename_i wx;obtain ⟨rfl,k⟩:=hcut;replace Bel:=aaA (bg Bel.o k (by omega));replace WA:=aaA (WA.o.kept k (by omega));replace S0:=aaA (S0.o.kept k (by omega));replace W0:=aaA (W0.o.kept k (by omega));replace O3:=aaA (O3.o.kept k (by omega));replace VA:=aaA (VA.o.kept k (by omega));replace S1:=aaA (S1.o.kept k (by omega));replace W1:=aaA (W1.o.kept k (by omega));have nwx:=k.size;clear k;have p0:=VA.o.all;go_wp2_with fail;clear p0;refine (DN _ d _ _ _ _ _ _ _ _ X3.heap.size w4.heap.size O3.o (by omega) bx by_ bz HLL.o bm).mono ?_;rintro e9 w9 ⟨rfl,_,k,_⟩;clear O3;replace Bel:=aaA (bg Bel.o k (by omega));replace WA:=aaA (WA.o.kept k (by omega));replace S0:=aaA (S0.o.kept k (by omega));replace W0:=aaA (W0.o.kept k (by omega));replace VA:=aaA (VA.o.kept k (by omega));replace S1:=aaA (S1.o.kept k (by omega));replace W1:=aaA (W1.o.kept k (by omega));have nw9:=k.size;clear k;have hmk:¬(mkN d.c 1<0):=by unfold mkN;omega
    have p0:=W1.o.all;have p1:=W0.o.all;go_wp2_with fail;clear p0 p1;refine (Em _ D a1 b1 e1 q1 _ _ _ _ a0 b0 e0 q0 _ _ _ _ S1.o.d.row S1.o.a'.row S1.o.b'.row S1.o.l.row S0.o.d.row S0.o.a'.row S0.o.b'.row S0.o.l.row (by omega) (by omega) (by omega) HDL.o (by omega)).mono ?_;rintro e9 w10 ⟨rfl,k⟩;replace Bel:=aaA (bg Bel.o k (by omega));replace WA:=aaA (WA.o.kept k (by omega));replace S0:=aaA (S0.o.kept k (by omega));replace W0:=aaA (W0.o.kept k (by omega));replace VA:=aaA (VA.o.kept k (by omega));replace S1:=aaA (S1.o.kept k (by omega));replace W1:=aaA (W1.o.kept k (by omega));have nw10:=k.size;clear k;have p0:=W1.o.all;go_wp2_with fail;clear p0;refine (DN _ D a1 b1 e1 q1 _ _ _ _ X4.heap.size w5.heap.size S1.o (by omega) (by omega) (by omega) (by omega) HDL.o (by omega)).mono ?_;rintro e9 w11 ⟨rfl,hm9,k,kb⟩;clear S1;replace Bel:=aaA (bg Bel.o k (by omega));replace WA:=aaA (WA.o.kept k (by omega));replace S0:=aaA (S0.o.kept k (by omega));replace W0:=aaA (W0.o.kept k (by omega));replace VA:=aaA (VA.o.kept k (by omega));replace W1:=aaA (W1.o.kept k (by omega));have M1:=aaA hm9;have nw11:=k.size;clear k hm9 kb;have hmD:0<=mkN D.c 1∧mkN D.c 1<=100000:=by unfold mkN;omega
    obtain ⟨Q,hQ⟩:∃Q,Q=mkN D.c 1:=⟨_,rfl⟩
    rw [<-hQ] at hmD ⊢;have HQQ:=aaA hQ;clear hQ;have hmE:¬(Q<0):=by omega
    have p0:=W1.o.all;go_wp2_with fail;clear p0;refine (Ec _ D a1 b1 e1 q1 _ _ _ _ M1.o.d.row M1.o.a'.row M1.o.b'.row M1.o.l.row (by omega) (by omega) (by omega) (by omega)).mono ?_;rw [<-HQQ.o];rintro e9 w12 ⟨rfl,k⟩;replace Bel:=aaA (bg Bel.o k (by omega));replace WA:=aaA (WA.o.kept k (by omega));replace S0:=aaA (S0.o.kept k (by omega));replace W0:=aaA (W0.o.kept k (by omega));replace VA:=aaA (VA.o.kept k (by omega));replace W1:=aaA (W1.o.kept k (by omega));replace M1:=aaA (M1.o.kept k (by omega));have nw12:=k.size;clear k;have p0:=WA.o.all;go_wp2_with fail;clear p0;refine (Dq _ d a b e q ca cb ce cq (HX.o.below Bel.o).1 (HY.o.below Bel.o).1 (HZ.o.below Bel.o).1 (HQ.o.below Bel.o).1 bx by_ bz HLL.o bm).mono ?_;rintro e9 w13 ⟨h1,h2,h3,h4,rfl,hs9,k⟩;replace Bel:=aaA (bg Bel.o k (by omega));replace WA:=aaA (WA.o.kept k (by omega));replace S0:=aaA (S0.o.kept k (by omega));replace W0:=aaA (W0.o.kept k (by omega));replace VA:=aaA (VA.o.kept k (by omega));replace W1:=aaA (W1.o.kept k (by omega));replace M1:=aaA (M1.o.kept k (by omega));have nw13:=k.size;have O5:=aaA hs9;clear k hs9;go_wp2_with fail;refine (ry _ d _ _ _ _ _ _ _ _ ⟨O5.o.d.row,HX.o.2⟩ ⟨O5.o.a'.row,HY.o.2⟩ ⟨O5.o.b'.row,HZ.o.2⟩ ⟨O5.o.l.row,HQ.o.2⟩ bx by_ bz HLL.o bm HWF.o (HS.o.below Bel.o) (HT.o.below Bel.o)).mono ?_;rw [HDD.o,HVV.o,HKK.o];rintro e9 w14 ⟨a2,b2,e2,q2,ca2,cb2,ce2,cq2,rfl,hin,k⟩;have hsl:=hin.slx;replace Bel:=aaA (bg Bel.o k (by omega));replace WA:=aaA (WA.o.kept k (by omega));replace S0:=aaA (S0.o.kept k (by omega));replace W0:=aaA (W0.o.kept k (by omega));replace VA:=aaA (VA.o.kept k (by omega));replace W1:=aaA (W1.o.kept k (by omega));replace M1:=aaA (M1.o.kept k (by omega));replace O5:=aaA (O5.o.kept k (by omega));have nw14:=k.size;have S2:=aaA hsl;clear k hin hsl;clear O5;have k:Kept 0 0 w14 (w14.alloc (.cells (irA D a2 b2 e2 q2 ca2 cb2 ce2 cq2) 81)):=kept_alloc w14 _;replace Bel:=aaA (bg Bel.o k (by omega));replace WA:=aaA (WA.o.kept k (by omega));replace S0:=aaA (S0.o.kept k (by omega));replace W0:=aaA (W0.o.kept k (by omega));replace VA:=aaA (VA.o.kept k (by omega));replace W1:=aaA (W1.o.kept k (by omega));replace M1:=aaA (M1.o.kept k (by omega));replace S2:=aaA (S2.o.kept k (by omega));have W2:=aaA (Blk.new w14 (irA D a2 b2 e2 q2 ca2 cb2 ce2 cq2) 81);obtain ⟨X14,hX14⟩:∃X:World,(w14.alloc (.cells (irA D a2 b2 e2 q2 ca2 cb2 ce2 cq2) 81))=X:=⟨_,rfl⟩
    have nX14:X14.heap.size=w14.heap.size+1:=by simp [<-hX14]
    rw [hX14] at Bel WA S0 W0 VA W1 M1 S2 W2;clear k;have p0:=W2.o.all;have p1:=W0.o.all;go_wp2_with fail;clear p0 p1 hX14;refine (Em _ D a2 b2 e2 q2 _ _ _ _ a0 b0 e0 q0 _ _ _ _ S2.o.d.row S2.o.a'.row S2.o.b'.row S2.o.l.row S0.o.d.row S0.o.a'.row S0.o.b'.row S0.o.l.row (by omega) (by omega) (by omega) HDL.o (by omega)).mono ?_;rintro e9 w15 ⟨rfl,k⟩;replace Bel:=aaA (bg Bel.o k (by omega));replace WA:=aaA (WA.o.kept k (by omega));replace S0:=aaA (S0.o.kept k (by omega));replace W0:=aaA (W0.o.kept k (by omega));replace VA:=aaA (VA.o.kept k (by omega));replace W1:=aaA (W1.o.kept k (by omega));replace M1:=aaA (M1.o.kept k (by omega));replace S2:=aaA (S2.o.kept k (by omega));replace W2:=aaA (W2.o.kept k (by omega));have nw15:=k.size;clear k;have p0:=W1.o.all;go_wp2_with fail;clear p0;refine (Ec _ D a1 b1 e1 q1 _ _ _ _ M1.o.d.row M1.o.a'.row M1.o.b'.row M1.o.l.row (by omega) (by omega) (by omega) (by omega)).mono ?_;rw [<-HQQ.o];rintro e9 w16 ⟨rfl,k⟩;replace Bel:=aaA (bg Bel.o k (by omega));replace WA:=aaA (WA.o.kept k (by omega));replace S0:=aaA (S0.o.kept k (by omega));replace W0:=aaA (W0.o.kept k (by omega));replace VA:=aaA (VA.o.kept k (by omega));replace W1:=aaA (W1.o.kept k (by omega));replace M1:=aaA (M1.o.kept k (by omega));replace S2:=aaA (S2.o.kept k (by omega));replace W2:=aaA (W2.o.kept k (by omega));have nw16:=k.size;clear k;go_wp2_with fail;go_ret;exact ⟨rfl,Bel.o⟩
theorem Sl:prog.globalNamed "loop.example/g00389/impl.digitSums" = some 0:=by kernel_rfl
theorem Kv:prog.globalNamed "loop.example/g00389/impl.ninesLess" = some 1:=by kernel_rfl
theorem V7:(prog.globals[0]?).map (·.type)=some 292:=by kernel_rfl
theorem Tj:(prog.globals[1]?).map (·.type)=some 293:=by kernel_rfl
theorem XN:prog.cellsOf 3=1:=by kernel_rfl
theorem XM:prog.cellsOf 292=20:=by kernel_rfl
theorem U1:prog.cellsOf 293=10:=by kernel_rfl
def Ig:List Int:=[0,1,2,3,4,5,6,7,8,9,16,17,18,19,20,21,22,23,24,25]
def BQ:List Int:=[9,8,7,6,5,4,3,2,1,0]
theorem Ie:∀i:Nat,i<20->Ig.getD i 0=(i:Int)/10*16+(i:Int)%10:=by decide
theorem FH:∀i:Nat,i<10->BQ.getD i 0=9-(i:Int):=by decide
theorem NQ {W:World} {rest:List (String × DataW Unit)} (h:laidMet prog (("loop.example/g00389/impl.digitSums",Rows.laid_loop_example_g00389_impl_digitSums) :: rest) W):nV W:=by
 have hT:Lib.TabIs prog W "loop.example/g00389/impl.digitSums" .i64 Ig:=Lib.tabIs_of_head (rest:=rest) Sl V7 underlying292 underlying3 XN XM h;intro i hi;rw [hT.cell Sl i (by simpa [Ig] using hi),Ie i hi]
theorem NR {W:World} {rest:List (String × DataW Unit)} (h:laidMet prog (("loop.example/g00389/impl.ninesLess",Rows.laid_loop_example_g00389_impl_ninesLess) :: rest) W):rQ W:=by
 have hT:Lib.TabIs prog W "loop.example/g00389/impl.ninesLess" .i64 BQ:=Lib.tabIs_of_head (rest:=rest) Kv Tj underlying293 underlying3 XN U1 h;intro i hi;rw [hT.cell Kv i (by simpa [BQ] using hi),FH i hi]
theorem NP {W:World} (h:laidMetH prog [("loop.example/g00389/impl.digitSums",Rows.laid_loop_example_g00389_impl_digitSums),("loop.example/g00389/impl.ninesLess",Rows.laid_loop_example_g00389_impl_ninesLess)] W):nV W∧rQ W:=by
 rw [MakeChecks.laidMetH_plain _ _ _ (by kernel_rfl)] at h;exact ⟨NQ h,NR h.tail⟩
open Go.RowKit Go.WideShapes Go.ChangeShapes Go.ChangeAt
set_option linter.unusedSimpArgs false
theorem Tryz.rH:prog.cellsOf 3=1:=by kernel_rfl
theorem Tryz.MJ:prog.cellsOf 193=5:=by kernel_rfl
theorem Tryz.MI:prog.cellsOf 27=2:=by kernel_rfl
theorem Tryz.sN:prog.cellsOf 4=1:=by kernel_rfl
theorem Tryz.xn:prog.cellsOf 22=1:=by kernel_rfl
theorem Tryz.Gy:prog.cellsOf 25=1:=by kernel_rfl
theorem Tryz.Gx:prog.cellsOf 24=8:=by kernel_rfl
theorem Tryz.MH:prog.cellsOf 29=12:=by kernel_rfl
theorem Addr.AL (a:Addr) (i j:Nat):(a.add i).add j=a.add (i+j):=by
 unfold Addr.add;by_cases hi:i=0<;>by_cases hj:j=0<;>simp [hi,hj,Nat.add_assoc]
theorem Es {w:World} {x:Addr} {n:Nat} (h:∀i,i<n->∃z:Int,w.cell? (x.add i)=some (iv z)∧(Lit.int .i64 z).wf=true):∃xs:List Int,xs.length=n∧Came w (some x) xs:=by
 obtain ⟨f,hf⟩:=Go.Deep.choose_lt h;refine ⟨(List.range n).map f,by simp,?_,?_⟩
 ·intro i hi;have hi':i<n:=by simpa using hi
  obtain ⟨g,off,spot⟩:=x;have hspot:spot=none:=by simpa [Addr.add] using World.cell?_spot (hf 0 (by omega)).1
  subst hspot;refine ⟨g,off,rfl,?_⟩;have hc:=(hf i hi').1;by_cases h0:i=0
  ·subst h0;simpa [Addr.add,hi'] using hc
  ·simpa [Addr.add,h0,hi'] using hc
 ·intro i hi;have hi':i<n:=by simpa using hi
  have:=bounds_i64 (hf i hi').2
  simpa [hi'] using this
section
variable {H:Type} {enc:TypeId × Value->H} {w:World} {base:Nat} {spare:Nat->Bool} {held:Bool}
theorem oV {fuel:Nat} {v:Value} {y:DataW H × List MemPlace} (h:DataW.trod enc prog w base spare held fuel 22 [v]=some y) :
  ∃(a:Option Addr) (cap:Nat) (xs:List Int),v=.slice a xs.length cap∧Came w a xs∧xs.length<=maxLen:=by
 rcases open_ints underlying22 underlying3 Tryz.rH h with ⟨hc,_⟩|⟨x,len,cap,zs,hc,_,hl,hm,hz,_,hcell,hwz⟩
 ·simp at hc
  exact ⟨none,0,[],hc,⟨fun i hi=>absurd hi (Nat.not_lt_zero i),fun i hi=>absurd hi (Nat.not_lt_zero i)⟩,Nat.zero_le _⟩
 ·simp at hc
  have hlen:len<=zs.length:=by rw [hz];split<;>omega
  obtain ⟨xs,rfl,hx⟩:=Es (w:=w) (x:=x) (n:=len) (fun i hi=>⟨zs.getD i 0,hcell i (by omega),hwz _ (by
   have:i<zs.length:=by omega
   simp [List.getD,this])⟩)
  exact ⟨some x,cap,xs,hc,hx,by omega⟩
theorem zy {fuel:Nat} {v:Value} {y:DataW H × List MemPlace} (h:DataW.trod enc prog w base spare held fuel 25 [v]=some y) :
  ∃(a:Option Addr) (m cap:Nat) (ys:List Int),v=.slice a m cap∧Came w a ys∧ys.length=5*m∧m<=maxLen:=by
 rcases Go.Deep.open_slice underlying25 h with ⟨hc,_⟩|⟨x,len,cap,m,n,D,Pl,hc,_,hl,hm,hmm,_,hel⟩
 ·simp at hc
  exact ⟨none,0,0,[],hc,⟨fun i hi=>absurd hi (Nat.not_lt_zero i),fun i hi=>absurd hi (Nat.not_lt_zero i)⟩,rfl,Nat.zero_le _⟩
 ·simp at hc
  have hlen:len<=m:=by rw [hmm];split<;>omega
  obtain ⟨ys,hy,hx⟩:=Es (w:=w) (x:=x) (n:=5*len) (by
   intro i hi;obtain ⟨cs',h1,h2⟩:=hel (i/5) (by omega);rw [Tryz.MJ] at h1;obtain ⟨_,hl5,hcs⟩:=World.cells?_some h1;obtain ⟨zs,k,_,_,_,hzl,hf⟩:=DataW.trod_struct underlying193 h2;have hget:=hcs (i%5) (by omega);rw [Addr.AL,show i/5*5+i%5=i from by omega] at hget;rw [hget]
   obtain ⟨c0,c1,c2,c3,c4,rfl⟩:∃c0 c1 c2 c3 c4,cs'=[c0,c1,c2,c3,c4]:=by
    match cs',hl5 with
    | [c0,c1,c2,c3,c4],_=>exact ⟨c0,c1,c2,c3,c4,rfl⟩
   obtain ⟨z0,z1,z2,z3,z4,rfl⟩:∃z0 z1 z2 z3 z4,zs=[z0,z1,z2,z3,z4]:=by
    match zs,hzl with
    | [z0,z1,z2,z3,z4],_=>exact ⟨z0,z1,z2,z3,z4,rfl⟩
   have t0:=hf 0 _ rfl;have t1:=hf 1 _ rfl;have t2:=hf 2 _ rfl;have t3:=hf 3 _ rfl;have t4:=hf 4 _ rfl;simp [Tryz.rH] at t0 t1 t2 t3 t4;obtain ⟨n0,e0,_,b0⟩:=DataW.trod_int underlying3 t0;obtain ⟨n1,e1,_,b1⟩:=DataW.trod_int underlying3 t1;obtain ⟨n2,e2,_,b2⟩:=DataW.trod_int underlying3 t2;obtain ⟨n3,e3,_,b3⟩:=DataW.trod_int underlying3 t3;obtain ⟨n4,e4,_,b4⟩:=DataW.trod_int underlying3 t4;simp at e0 e1 e2 e3 e4;subst e0 e1 e2 e3 e4;obtain h|h|h|h|h:i%5=0∨i%5=1∨i%5=2∨i%5=3∨i%5=4:=by omega
   all_goals rw [h]
   ·exact ⟨n0,rfl,b0⟩
   ·exact ⟨n1,rfl,b1⟩
   ·exact ⟨n2,rfl,b2⟩
   ·exact ⟨n3,rfl,b3⟩
   ·exact ⟨n4,rfl,b4⟩)
  exact ⟨some x,len,cap,ys,hc,hx,hy,by omega⟩
end
set_option linter.unusedSimpArgs false
theorem Tryz.MG:prog.cellsOf 78=14:=by kernel_rfl
section
variable {H:Type} {enc:TypeId × Value->H} {w:World} {base:Nat} {spare:Nat->Bool} {held:Bool}
theorem Ji {r:Reach} {b0:Nat} {v:Value} {d:DataW H} {p:List MemPlace} (hv:Value.okWide prog w r b0 78 v) (h:DataW.Trod enc prog w base spare held 78 v d p) :
  ∃(a0:Option Addr) (c0:Nat) (x0:List Int) (a1:Option Addr) (c1:Nat) (x1:List Int) (i2 i3 i4 i5:Int) (i6 i7:Bool) (a8:Option Addr) (c8:Nat) (x8:List Int) (a9:Option Addr) (m9 c9:Nat) (x9:List Int) (i10 i11:Bool) (i12:Int) (i13:Bool),v=.agg #[.slice a0 x0.length c0,.slice a1 x1.length c1,iv i2,iv i3,iv i4,iv i5,.bool i6,.bool i7,.slice a8 x8.length c8,.slice a9 m9 c9,.bool i10,.bool i11,iv i12,.bool i13]∧(Came w a0 x0∧x0.length<=maxLen)∧(Came w a1 x1∧x1.length<=maxLen)∧(Lit.int .i64 i2).wf=true∧(Lit.int .i64 i3).wf=true∧(Lit.int .i64 i4).wf=true∧(Lit.int .i64 i5).wf=true∧(Came w a8 x8∧x8.length<=maxLen)∧(Came w a9 x9∧x9.length=5*m9∧m9<=maxLen)∧(Lit.int .i64 i12).wf=true:=by
 obtain ⟨cs,rfl,hsz⟩:=okWide_struct underlying78 hv;rw [Tryz.MG] at hsz;obtain ⟨cl⟩:=cs
 obtain ⟨c_0,c_1,c_2,c_3,c_4,c_5,c_6,c_7,c_8,c_9,QA,Qz,Qy,Qx,rfl⟩:∃c_0 c_1 c_2 c_3 c_4 c_5 c_6 c_7 c_8 c_9 QA Qz Qy Qx,cl=[c_0,c_1,c_2,c_3,c_4,c_5,c_6,c_7,c_8,c_9,QA,Qz,Qy,Qx]:=by
  match cl,hsz with
  | [c_0,c_1,c_2,c_3,c_4,c_5,c_6,c_7,c_8,c_9,QA,Qz,Qy,Qx],_=>exact ⟨c_0,c_1,c_2,c_3,c_4,c_5,c_6,c_7,c_8,c_9,QA,Qz,Qy,Qx,rfl⟩
 obtain ⟨fuel,hf0⟩:=h;obtain ⟨zs,k,_,_,_,hzl,hg⟩:=DataW.trod_struct underlying78 hf0
 obtain ⟨o_0,o_1,o_2,rfl⟩:∃o_0 o_1 o_2,zs=[o_0,o_1,o_2]:=by
  match zs,hzl with
  | [o_0,o_1,o_2],_=>exact ⟨o_0,o_1,o_2,rfl⟩
 have r0:=hg 0 _ rfl;have r1:=hg 1 _ rfl;have r2:=hg 2 _ rfl;simp [Value.cells,Tryz.MH,Tryz.rH,Tryz.sN] at r0 r1 r2;obtain ⟨zs,k1,_,_,_,hzl,hf⟩:=DataW.trod_struct underlying29 r0
 obtain ⟨y_0,y_1,y_2,y_3,rfl⟩:∃y_0 y_1 y_2 y_3,zs=[y_0,y_1,y_2,y_3]:=by
  match zs,hzl with
  | [y_0,y_1,y_2,y_3],_=>exact ⟨y_0,y_1,y_2,y_3,rfl⟩
 have s0:=hf 0 _ rfl;have s1:=hf 1 _ rfl;have s2:=hf 2 _ rfl;have s3:=hf 3 _ rfl;simp [Value.cells,Tryz.Gx,Tryz.MI,Tryz.sN] at s0 s1 s2 s3;obtain ⟨zs,k2,_,_,_,hzl,hr⟩:=DataW.trod_struct underlying24 s0
 obtain ⟨z_0,z_1,z_2,z_3,z_4,z_5,z_6,z_7,rfl⟩:∃z_0 z_1 z_2 z_3 z_4 z_5 z_6 z_7,zs=[z_0,z_1,z_2,z_3,z_4,z_5,z_6,z_7]:=by
  match zs,hzl with
  | [z_0,z_1,z_2,z_3,z_4,z_5,z_6,z_7],_=>exact ⟨z_0,z_1,z_2,z_3,z_4,z_5,z_6,z_7,rfl⟩
 have t0:=hr 0 _ rfl;have t1:=hr 1 _ rfl;have t2:=hr 2 _ rfl;have t3:=hr 3 _ rfl;have t4:=hr 4 _ rfl;have t5:=hr 5 _ rfl;have t6:=hr 6 _ rfl;have t7:=hr 7 _ rfl;simp [Value.cells,Tryz.rH,Tryz.sN,Tryz.xn] at t0 t1 t2 t3 t4 t5 t6 t7;obtain ⟨zs,k3,_,_,_,hzl,hb⟩:=DataW.trod_struct underlying27 s1
 obtain ⟨x_0,x_1,rfl⟩:∃x_0 x_1,zs=[x_0,x_1]:=by
  match zs,hzl with
  | [x_0,x_1],_=>exact ⟨x_0,x_1,rfl⟩
 have t8:=hb 0 _ rfl;have t9:=hb 1 _ rfl;simp [Value.cells,Tryz.xn,Tryz.Gy] at t8 t9;obtain ⟨a0,c0,x0,q0,hx0,lx0⟩:=oV t0;obtain ⟨a1,c1,x1,q1,hx1,lx1⟩:=oV t1;obtain ⟨i2,q2,_,wf2⟩:=DataW.trod_int underlying3 t2;obtain ⟨i3,q3,_,wf3⟩:=DataW.trod_int underlying3 t3;obtain ⟨i4,q4,_,wf4⟩:=DataW.trod_int underlying3 t4;obtain ⟨i5,q5,_,wf5⟩:=DataW.trod_int underlying3 t5;obtain ⟨i6,q6,_⟩:=DataW.trod_bool underlying4 t6;obtain ⟨i7,q7,_⟩:=DataW.trod_bool underlying4 t7;obtain ⟨a8,c8,x8,q8,hx8,lx8⟩:=oV t8;obtain ⟨a9,m9,c9,x9,q9,hx9,ly9,lm9⟩:=zy t9;obtain ⟨i10,q10,_⟩:=DataW.trod_bool underlying4 s2;obtain ⟨i11,q11,_⟩:=DataW.trod_bool underlying4 s3;obtain ⟨i12,q12,_,wf12⟩:=DataW.trod_int underlying3 r1;obtain ⟨i13,q13,_⟩:=DataW.trod_bool underlying4 r2;simp at q0 q1 q2 q3 q4 q5 q6 q7 q8 q9 q10 q11 q12 q13;subst q0 q1 q2 q3 q4 q5 q6 q7 q8 q9 q10 q11 q12 q13;exact ⟨a0,c0,x0,a1,c1,x1,i2,i3,i4,i5,i6,i7,a8,c8,x8,a9,m9,c9,x9,i10,i11,i12,i13,rfl,⟨hx0,lx0⟩,⟨hx1,lx1⟩,wf2,wf3,wf4,wf5,⟨hx8,lx8⟩,⟨hx9,ly9,lm9⟩,wf12⟩
end
end Go.Proofs.YtgikibaajanjiaaGreatDoor
