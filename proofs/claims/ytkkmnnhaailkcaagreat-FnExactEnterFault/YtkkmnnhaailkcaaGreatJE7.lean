/- Part 7 of what the last text leans on. -/
import Derived.Test.YtkkmnnhaailkcaaGreatJE6
import Derived.Test.YtkkmnnhaailkcaaGreatJE5
import Derived.Test.YtkkmnnhaailkcaaGreatJE1
import Derived.Test.YtkkmnnhaailkcaaGreatJE2
import Derived.Deep.DeepCutAuto
import Derived.Deep.RegionHeld3
import Derived.Lib.SmallJoins
import Derived.Deep.Slices
import Derived.ProofKit
import Derived.OpenShut
set_option maxRecDepth 100000
set_option maxHeartbeats 16000000
namespace Go.Proofs.YtkkmnnhaailkcaaGreat
open Go.RowKit Go.Proofs.Tryz
set_option linter.unusedVariables false
theorem Tryz.infoCore:(prog.info? 89).map (fun i=>(i.zero,i.size))=some (some (.agg (cor ⟨[0,0,0,0],[0,0,0,0],0,0,0,0,false,false⟩ zeros (.slice none 0 0) false false)),529):=by kernel_rfl
theorem cor_laid (r:Pl.Rg) (xs:List Int) (u:Value) (st ha:Bool) (A:Array Value) (hA:A.size=529) (lx:xs.length=512):laid 528 #[.bool ha] (laid 527 #[.bool st] (laid 14 (brd xs u) (laid 0 (bkR r) A)))=cor r xs u st ha:=by
 have hb:(brd xs u).size=513:=by rw [brd_size,lx]
 have hr:(bkR r).size=14:=rfl
 apply Array.ext_getElem?
 intro i
 rw [laid_at 528 _ _ (by simp only [laid_size,hA];exact Nat.le_refl 529),laid_at 527 _ _ (by simp only [laid_size,hA];exact Nat.le_succ 528),laid_at 14 _ _ (by rw [laid_size,hA,hb];decide),laid_at 0 _ _ (by rw [hA,hr];decide),hb,hr]
 by_cases h1:i<14
 ·rw [if_neg (by simp;omega),if_neg (by simp;omega),if_neg (by omega),if_pos (by omega),cor_lo h1];rfl
 ·by_cases h2:i<526
  ·rw [if_neg (by simp;omega),if_neg (by simp;omega),if_pos (by omega)]
   obtain ⟨n,rfl⟩:∃n,i=14+n:=⟨i-14,by omega⟩
   rw [cor_at (by omega),Nat.add_sub_cancel_left,brd_at (by omega)]
  ·by_cases h3:i<529
   ·have:i=526∨i=527∨i=528:=by omega
    rcases this with rfl|rfl|rfl
    ·rw [if_neg (by simp),if_neg (by simp),if_pos (by omega),cor_log lx];exact brd_log lx
    ·rw [if_neg (by simp),if_pos (by simp),cor_st lx];rfl
    ·rw [if_pos (by simp),cor_ha lx];rfl
   ·rw [if_neg (by simp;omega),if_neg (by simp;omega),if_neg (by omega),if_neg (by omega),Array.getElem?_eq_none (by omega),Array.getElem?_eq_none (by rw [cor_size lx];omega)]
theorem laid_one (k:Nat) (v:Value) (A:Array Value):laid k #[v] A=A.setIfInBounds k v:=rfl
theorem coreFill (r:Pl.Rg) (xs:List Int) (m:Nat) (st ha:Bool) (lx:xs.length=512):∃(Z L:Array Value) (M:Option Addr→Array Value),(∀w,(zeroValue 89).run prog w=.ok (.agg Z) w)∧Z.size=529∧(bkR r).size=14∧(∀d,(brd xs (.slice d m m)).size=513)∧
  (bkR r).zipIdx.foldl (fun cs x=>cs.setIfInBounds x.2 x.1) Z 0 14=L∧L.size=529∧(∀d,(brd xs (.slice d m m)).zipIdx.foldl (fun cs x=>cs.setIfInBounds (14+x.2) x.1) L 0 513=M d)∧(∀d,(M d).size=529)∧
  ∀d,((M d).setIfInBounds 527 (.bool st)).setIfInBounds 528 (.bool ha)=cor r xs (.slice d m m) st ha:=by
 have hr:(bkR r).size=14:=rfl
 have hd:∀d,(brd xs (.slice d m m)).size=513:=fun d=>by rw [brd_size,lx]
 obtain ⟨Z,hz,hs⟩:∃Z:Array Value,(∀w,(zeroValue 89).run prog w=.ok (.agg Z) w)∧Z.size=529:=⟨_,(zero_of_info Tryz.infoCore).1,cor_size zeros_len⟩
 refine ⟨Z,laid 0 (bkR r) Z,fun d=>laid 14 (brd xs (.slice d m m)) (laid 0 (bkR r) Z),hz,hs,hr,hd,?_,?_,?_,?_,?_⟩
 ·unfold laid;simp [hr]
 ·rw [laid_size];exact hs
 ·intro d;unfold laid;simp [hr,hd]
 ·intro d;rw [laid_size,laid_size];exact hs
 ·intro d
  have:=cor_laid r xs (.slice d m m) st ha Z hs lx
  rw [laid_one,laid_one] at this
  exact this
theorem cpu12 {w:World} {x:Nat} {c:Pl.Cp} {a b e q:Option Addr} {ca cb ce cq:Nat} {ty:TypeId} (h:Blk w x (cpA c a b e q ca cb ce cq) ty):w.cell? ⟨x,0,none⟩=some (.slice a c.r.xs.length ca)∧w.cell? ⟨x,1,none⟩=some (.slice b c.r.ys.length cb)∧w.cell? ⟨x,2,none⟩=some (.int .i64 c.r.o)∧w.cell? ⟨x,3,none⟩=some (.int .i64 c.r.p)∧w.cell? ⟨x,4,none⟩=some (.int .i64 c.r.f)∧w.cell? ⟨x,5,none⟩=some (.int .i64 c.r.m)∧w.cell? ⟨x,6,none⟩=some (.bool c.r.s)∧w.cell? ⟨x,7,none⟩=some (.bool c.r.t)∧w.cell? ⟨x,8,none⟩=some (.slice e c.bx.length ce)∧w.cell? ⟨x,9,none⟩=some (.slice q c.bm cq)∧w.cell? ⟨x,10,none⟩=some (.bool c.st)∧w.cell? ⟨x,11,none⟩=some (.bool c.ha):=
 ⟨h.cell (i:=0) rfl,h.cell (i:=1) rfl,h.cell (i:=2) rfl,h.cell (i:=3) rfl,h.cell (i:=4) rfl,h.cell (i:=5) rfl,h.cell (i:=6) rfl,h.cell (i:=7) rfl,h.cell (i:=8) rfl,h.cell (i:=9) rfl,h.cell (i:=10) rfl,h.cell (i:=11) rfl⟩
theorem coreOf (w:World) (c:Pl.Cp) (a b e q:Option Addr) (ca cb ce cq:Nat) (ha:IRow w a c.r.xs) (hb:IRow w b c.r.ys) (he:IRow w e c.bx) (hq:IRow w q c.bl) (lx:c.r.xs.length=4) (ly:c.r.ys.length=4) (lb:c.bx.length=512) (ll:c.bl.length=5*c.bm) (lm:c.bm≤400) :
  Calls prog 21 #[.agg (cpA c a b e q ca cb ce cq)] w fun r w'=>∃p g:Nat,r=.returned (.pointer (some ⟨p,0,none⟩))∧CAt w' w.heap.size p g (Pl.Mc.ofC c) c.ha∧Kept 0 0 w w':=by
 have K0:=hide (kept_alloc w (.cells (cpA c a b e q ca cb ce cq) 38))
 have HBA:=hide (Blk.new w (cpA c a b e q ca cb ce cq) 38)
 obtain ⟨X,hX⟩:∃X:World,w.alloc (.cells (cpA c a b e q ca cb ce cq) 38)=X:=⟨_,rfl⟩
 rw [hX] at K0 HBA
 have HA:=hide (ha.keptS K0.out)
 have HB:=hide (hb.keptS K0.out)
 have HE:=hide (he.keptS K0.out)
 have HQ:=hide (hq.keptS K0.out)
 obtain ⟨CZ,L1,L2,bz,z1,z2,z3,z4,z5,z6,z7,z8⟩:=coreFill c.r c.bx c.bm c.st c.ha lb
 have LX:=hide lx
 have LY:=hide ly
 have LB:=hide lb
 have LL:=hide ll
 have LM:=hide lm
 clear ha hb he hq lx ly lb ll lm
 obtain ⟨i0,i1,i2,i3,i4,i5,i6,i7,i8,i9,i10,i11⟩:=cpu12 HBA.out
 go_enter func21,ntmps21
 go_wp2_with fail
 clear hX
 go_region_held3 (fun w'=>w'.cell? ⟨w.heap.size,0,none⟩=some (.slice a c.r.xs.length ca)∧w'.cell? ⟨w.heap.size,1,none⟩=some (.slice b c.r.ys.length cb)∧w'.cell? ⟨w.heap.size,2,none⟩=some (.int .i64 c.r.o)∧w'.cell? ⟨w.heap.size,3,none⟩=some (.int .i64 c.r.p)∧w'.cell? ⟨w.heap.size,4,none⟩=some (.int .i64 c.r.f)∧w'.cell? ⟨w.heap.size,5,none⟩=some (.int .i64 c.r.m)∧w'.cell? ⟨w.heap.size,6,none⟩=some (.bool c.r.s)∧w'.cell? ⟨w.heap.size,7,none⟩=some (.bool c.r.t)∧w'.cell? ⟨w.heap.size,8,none⟩=some (.slice e c.bx.length ce)∧w'.cell? ⟨w.heap.size,9,none⟩=some (.slice q c.bm cq)∧w'.cell? ⟨w.heap.size,10,none⟩=some (.bool c.st)∧w'.cell? ⟨w.heap.size,11,none⟩=some (.bool c.ha)) (first|exact cpu12 B4.out|exact cpu12 B3.out|exact cpu12 (show Blk _ _ _ _ from HBA.out)|exact cpu12 (B4.out.alloc _))
  (first|(go_at_call 51;have z9:=B3;refine (boardOf _ e q ce cq c.bm c.bx c.bl (HE.out.keptS K3.out) (HQ.out.keptS K3.out) LB.out LL.out LM.out).mono ?_;rintro e9 w4 ⟨g,rfl,hb4,hg4,k4⟩;have B4:=hide (B3.out.kept0 k4);have G4:=hide hb4;have L4:=hide hg4;have K4:=hide (K3.out.trans k4);clear hb4 hg4 k4)|(go_at_call 50;refine (bankOf _ c.r a b ca cb (HA.out.keptS (kept_drew (Kept.refl _ _ _))) (HB.out.keptS (kept_drew (Kept.refl _ _ _))) LX.out LY.out).mono ?_;rintro e9 w3 ⟨rfl,kd⟩;have k3:=undrewK kd;have B3:=hide (HBA.out.kept0 k3);have K3:=hide k3;clear kd k3))
 go_wp2_with fail
 go_ret
 have s0:=K0.out.size
 have s3:=K3.out.size
 have l4:=L4.out
 have g4:=G4.out.lt
 refine ⟨w4.heap.size,g,rfl,⟨c.bm,Blk.new w4 _ _,⟨own5_of_blk (G4.out.alloc _) LL.out (by omega) (show c.bm≤2000000 by have:=LM.out;omega),?_,?_⟩⟩,K0.out.trans (kept_new K4.out _)⟩
 ·have:=K4.out.size;omega
 ·omega
theorem CAt.all16 {w:World} {lo b g:Nat} {c:Pl.Mc} {h:Bool} (a:CAt w lo b g c h) (l:c.bx.length=512):w.cell? ⟨b,0,none⟩=some (.int .i64 (el c.r.xs 0))∧w.cell? ⟨b,1,none⟩=some (.int .i64 (el c.r.xs 1))∧w.cell? ⟨b,2,none⟩=some (.int .i64 (el c.r.xs 2))∧w.cell? ⟨b,3,none⟩=some (.int .i64 (el c.r.xs 3))∧w.cell? ⟨b,4,none⟩=some (.int .i64 (el c.r.ys 0))∧w.cell? ⟨b,5,none⟩=some (.int .i64 (el c.r.ys 1))∧w.cell? ⟨b,6,none⟩=some (.int .i64 (el c.r.ys 2))∧w.cell? ⟨b,7,none⟩=some (.int .i64 (el c.r.ys 3))∧w.cell? ⟨b,8,none⟩=some (.int .i64 c.r.o)∧w.cell? ⟨b,9,none⟩=some (.int .i64 c.r.p)∧w.cell? ⟨b,10,none⟩=some (.int .i64 c.r.f)∧w.cell? ⟨b,11,none⟩=some (.int .i64 c.r.m)∧w.cell? ⟨b,12,none⟩=some (.bool c.r.s)∧w.cell? ⟨b,13,none⟩=some (.bool c.r.t)∧w.cell? ⟨b,527,none⟩=some (.bool c.st)∧w.cell? ⟨b,528,none⟩=some (.bool h):=
 ⟨a.cX (by omega),a.cX (by omega),a.cX (by omega),a.cX (by omega),a.cY (k:=0) (by omega),a.cY (k:=1) (by omega),a.cY (k:=2) (by omega),a.cY (k:=3) (by omega),a.cO,a.cP,a.cF,a.cM,a.cS,a.cT,a.cSt l,a.cH l⟩
theorem cBus (w:World) {r:Pl.Rg} {st ha:Bool} (b:Nat) (xs:List Int) (d:Option Addr) (n c:Nat) (hB:Blk w b (cor r xs (.slice d n c) st ha) 89) (lx:xs.length=512) :
  Calls prog 60 #[.pointer (some ⟨b,14,none⟩)] w fun e w'=>∃g:Nat,e=.returned (.agg #[.slice (some ⟨g,0,none⟩) 512 512,.slice d n c])∧Blk w' g (cellsOf xs) 3∧w.heap.size≤g∧Kept 0 0 w w':=by
 have HX:=hide lx
 have HB:=hide hB
 have hu:=underlying84
 have hcs:(xs.map (Value.int .i64)).length=512:=by rw [List.length_map,lx]
 have hi:(prog.info? 84).map (·.size)=some (xs.map (Value.int .i64)).length:=by rw [hcs];exact Tryz.memSize
 have h1:∀v∈xs.map (Value.int .i64),v.oneCell'=true:=news_one
 have hlt:=hB.lt
 have HR:=hide ((Blk.new w #[.slice none 0 0,.slice none 0 0] 36))
 have K0:=hide (kept_alloc w (.cells #[.slice none 0 0,.slice none 0 0] 36))
 have B0:=hide (hB.alloc (.cells #[.slice none 0 0,.slice none 0 0] 36))
 clear hB lx
 go_enter func60,ntmps60
 go_wp2_with fail
 obtain ⟨W,hW⟩:∃W:World,W=w.alloc (.cells #[.slice none 0 0,.slice none 0 0] 36):=⟨_,rfl⟩
 rw [←hW] at HR K0 B0 ⊢
 clear hW
 obtain ⟨r1,r2⟩:=corS B0.out HX.out
 go_region_held3 (fun w'=>w'.rangeAt b 14 (xs.map (Value.int .i64))∧w'.cell? ⟨b,526,none⟩=some (.slice d n c)) (first|exact corS B3.out HX.out|exact corS ((B3.out.other _ _ _ (by omega)).other _ _ _ (by omega)) HX.out|go_keep_ranges|go_keep)
  (first|(go_at_call 88;refine (memList _ xs HX.out).mono ?_;rintro e w3 ⟨g,rfl,hb3,hg3,kd⟩;have k3:=undrewK kd;have B3:=hide (B0.out.kept0 k3);have R3:=hide (HR.out.kept0 k3);have q0:=R3.out.cell (i:=0) rfl;have q1:=R3.out.cell (i:=1) rfl;have f0:=R3.out.frozen 0;have f1:=R3.out.frozen 1;have G3:=hide hb3;have L3:=hide hg3;have K3:=hide (K0.out.trans k3);clear hb3 hg3 kd k3))
 go_wp2_with fail
 have l3:W.heap.size≤g:=L3.out
 have k0:=K0.out.size
 have k1:=HR.out.lt
 refine bodyPost_ret (v:=.agg #[.slice (some ⟨g,0,none⟩) 512 512,.slice d n c]) ?_ rfl ⟨g,rfl,?_,by omega,?_⟩
 ·rw [results_one rfl];go_simp
 ·exact (G3.out.other _ _ _ (by omega)).other _ _ _ (by omega)
 ·exact kept_set (kept_set K3.out _ _ _ (.inr (by omega))) _ _ _ (.inr (by omega))
theorem cCpu (w:World) (lo b g:Nat) (c:Pl.Mc) (h:Bool) (hC:CAt w lo b g c h) (G:Pl.GM c) :
  Calls prog 23 #[.pointer (some ⟨b,0,none⟩)] w fun r w'=>∃(a' b' e' q':Option Addr) (ca' cb' ce' cq':Nat),r=.returned (.agg (cpuV (c.cpu h) a' b' e' q' ca' cb' ce' cq'))∧CpuIn w' lo (c.cpu h) a' b' e' q'∧Kept 0 0 w w':=by
 obtain ⟨l0,l1,l2,l3,l4⟩:=hC.lt
 have K0:=hide (kept_alloc w (.cells cpZ 38))
 have R0:=hide (Blk.new w cpZ 38)
 have C0:=hide (hC.alloc (.cells cpZ 38))
 have LX:=hide G.g.d4
 have LY:=hide G.g.a4
 have LB:=hide G.bx
 clear hC G
 obtain ⟨X,hX⟩:∃X:World,w.alloc (.cells cpZ 38)=X:=⟨_,rfl⟩
 rw [hX] at K0 R0 C0
 obtain ⟨i0,i1,i2,i3,i4,i5,i6,i7,i8,i9,i10,i11,i12,i13,j1,j2⟩:=C0.out.all16 LB.out
 go_enter func23,ntmps23
 go_wp2_with fail
 clear hX
 go_region_held3 (fun w'=>w'.cell? ⟨b,0,none⟩=some (.int .i64 (el c.r.xs 0))∧w'.cell? ⟨b,1,none⟩=some (.int .i64 (el c.r.xs 1))∧w'.cell? ⟨b,2,none⟩=some (.int .i64 (el c.r.xs 2))∧w'.cell? ⟨b,3,none⟩=some (.int .i64 (el c.r.xs 3))∧w'.cell? ⟨b,4,none⟩=some (.int .i64 (el c.r.ys 0))∧w'.cell? ⟨b,5,none⟩=some (.int .i64 (el c.r.ys 1))∧w'.cell? ⟨b,6,none⟩=some (.int .i64 (el c.r.ys 2))∧w'.cell? ⟨b,7,none⟩=some (.int .i64 (el c.r.ys 3))∧w'.cell? ⟨b,8,none⟩=some (.int .i64 c.r.o)∧w'.cell? ⟨b,9,none⟩=some (.int .i64 c.r.p)∧w'.cell? ⟨b,10,none⟩=some (.int .i64 c.r.f)∧w'.cell? ⟨b,11,none⟩=some (.int .i64 c.r.m)∧w'.cell? ⟨b,12,none⟩=some (.bool c.r.s)∧w'.cell? ⟨b,13,none⟩=some (.bool c.r.t)∧w'.cell? ⟨b,527,none⟩=some (.bool c.st)∧w'.cell? ⟨b,528,none⟩=some (.bool h)) (first|with_reducible exact C4.out.all16 LB.out|with_reducible exact C3.out.all16 LB.out|with_reducible exact C0.out.drew.all16 LB.out|exact (C4.out.kept ((((((((((((kept_one _ w.heap.size _ _).one _ _).one _ _).one _ _).one _ _).one _ _).one _ _).one _ _).one _ _).one _ _).one _ _).one _ _) (by omega) (by omega)).all16 LB.out)
  (first|(go_at_call 60;have z9:=C3;obtain ⟨cu,hb9,ho9⟩:=C3.out;refine (cBus _ b c.bx _ _ _ hb9 LB.out).mono ?_;rintro e9 w4 ⟨gb,rfl,hb4,hg4,k4⟩;have C4:=hide (C3.out.any k4);have B4:=hide hb4;have L4:=hide hg4;have RI4:=hide (RI3.out.kept k4);have R4:=hide (R3.out.kept0 k4);have p:=R4.out.all;have pf:=R4.out.fz;have O4:=hide (ho9.any k4);have K4:=hide (K3.out.trans k4);clear hb4 hg4 k4 hb9 ho9)|(go_at_call 59;refine (bankRegs c.r _ LX.out LY.out).mono ?_;rintro e9 w3 ⟨a',b',ca',cb',rfl,hr3,kd⟩;have k3:=undrewK kd;have C3:=hide (C0.out.any k3);have R3:=hide (R0.out.kept0 k3);have RI3:=hide hr3;have K3:=hide k3;clear kd k3 hr3))
 go_wp2_with fail
 have K5:=((((((((((((kept_one w4 w.heap.size 0 (.slice a' c.r.xs.length ca')).one 1 (.slice b' c.r.ys.length cb')).one 2 (.int .i64 c.r.o)).one 3 (.int .i64 c.r.p)).one 4 (.int .i64 c.r.f)).one 5 (.int .i64 c.r.m)).one 6 (.bool c.r.s)).one 7 (.bool c.r.t)).one 8 (.slice (some ⟨gb,0,none⟩) 512 512)).one 9 (.slice (some ⟨g,0,none⟩) c.bm cu)).one 10 (.bool c.st)).one 11 (.bool h))
 have s0:w.heap.size<X.heap.size:=R0.out.lt
 have s3:X.heap.size≤w3.heap.size:=K3.out.size
 have s4:w3.heap.size≤w4.heap.size:=by have:=K4.out.size;have:=L4.out;have:=B4.out.lt;omega
 have l4:=L4.out
 have b4:=B4.out.lt
 have s5:=K5.size
 have ra:∀x,blk a'=some x→X.heap.size≤x∧x<w3.heap.size:=by
  intro x hx
  rcases RI3.out.1 with ⟨e1,_⟩|⟨y,e1,y0,y1,_⟩
  ·rw [e1] at hx;cases hx
  ·rw [e1] at hx;have hx':y=x:=Option.some.inj hx;subst hx';exact ⟨y0,y1⟩
 have rb:∀x,blk b'=some x→X.heap.size≤x∧x<w3.heap.size:=by
  intro x hx
  rcases RI3.out.2.1 with ⟨e1,_⟩|⟨y,e1,y0,y1,_⟩
  ·rw [e1] at hx;cases hx
  ·rw [e1] at hx;have hx':y=x:=Option.some.inj hx;subst hx';exact ⟨y0,y1⟩
 refine bodyPost_ret (v:=.agg #[.slice a' c.r.xs.length ca',.slice b' c.r.ys.length cb',.int .i64 c.r.o,.int .i64 c.r.p,.int .i64 c.r.f,.int .i64 c.r.m,.bool c.r.s,.bool c.r.t,.slice (some ⟨gb,0,none⟩) 512 512,.slice (some ⟨g,0,none⟩) c.bm cu,.bool c.st,.bool h]) ?_ rfl ⟨a',b',some ⟨gb,0,none⟩,some ⟨g,0,none⟩,ca',cb',512,cu,?_,⟨?_,?_,?_,?_,RI3.out.2.2,?_,?_,?_,?_,?_⟩,?_⟩
 ·rw [results_one rfl];go_simp
 ·unfold cpuV Pl.Mc.cpu;dsimp only;rw [LB.out]
 ·exact (SlotIn.kept RI4.out.1 K5 (.inr (.inl (show w.heap.size+1≤X.heap.size by omega)))).wide (show lo≤X.heap.size by omega) s5
 ·exact (SlotIn.kept RI4.out.2.1 K5 (.inr (.inl (show w.heap.size+1≤X.heap.size by omega)))).wide (show lo≤X.heap.size by omega) s5
 ·exact .inr ⟨gb,rfl,by omega,by omega,own_of_blk (B4.out.kept K5 (by omega))⟩
 ·exact .inr ⟨g,rfl,l2,by omega,own_of_row5 (ownsRow_keptS O4.out.l K5 (by omega))⟩
 ·intro x h1 h2;have h3:gb=x:=Option.some.inj h2;have:=ra x h1;omega
 ·intro x h1 h2;have h3:g=x:=Option.some.inj h2;have:=ra x h1;omega
 ·intro x h1 h2;have h3:gb=x:=Option.some.inj h2;have:=rb x h1;omega
 ·intro x h1 h2;have h3:g=x:=Option.some.inj h2;have:=rb x h1;omega
 ·intro x h1 h2;have h3:gb=x:=Option.some.inj h1;have h4:g=x:=Option.some.inj h2;omega
 ·exact kept_over (K0.out.trans K4.out) K5 (by omega)
theorem implGoodCpu (w:World) (c:Pl.Cp) (a b e q:Option Addr) (ca cb ce cq:Nat) (ha:Came w a c.r.xs) (hb:Came w b c.r.ys) (he:Came w e c.bx) (hq:Came w q c.bl) (lx:c.r.xs.length≤2000000) (ly:c.r.ys.length≤2000000) (lb:c.bx.length≤2000000) (ll:c.bl.length=5*c.bm) (lm:c.bm≤2000000) (wf:Pl.WfR c.r) :
  Calls prog 19 #[.agg #[.slice a c.r.xs.length ca,.slice b c.r.ys.length cb,iv c.r.o,iv c.r.p,iv c.r.f,iv c.r.m,.bool c.r.s,.bool c.r.t,.slice e c.bx.length ce,.slice q c.bm cq,.bool c.st,.bool c.ha]] w fun r w'=>r=.returned (.bool (Pl.cpOk c))∧Kept 0 0 w w':=by
 have K0:=hide (kept_alloc w (.cells #[.slice a c.r.xs.length ca,.slice b c.r.ys.length cb,iv c.r.o,iv c.r.p,iv c.r.f,iv c.r.m,.bool c.r.s,.bool c.r.t,.slice e c.bx.length ce,.slice q c.bm cq,.bool c.st,.bool c.ha] 38))
 have HBA:=hide (Blk.new w #[.slice a c.r.xs.length ca,.slice b c.r.ys.length cb,iv c.r.o,iv c.r.p,iv c.r.f,iv c.r.m,.bool c.r.s,.bool c.r.t,.slice e c.bx.length ce,.slice q c.bm cq,.bool c.st,.bool c.ha] 38)
 obtain ⟨X,hX⟩:∃X:World,w.alloc (.cells #[.slice a c.r.xs.length ca,.slice b c.r.ys.length cb,iv c.r.o,iv c.r.p,iv c.r.f,iv c.r.m,.bool c.r.s,.bool c.r.t,.slice e c.bx.length ce,.slice q c.bm cq,.bool c.st,.bool c.ha] 38)=X:=⟨_,rfl⟩
 rw [hX] at K0 HBA
 have HA:=hide (ha.keptS K0.out)
 have HB:=hide (hb.keptS K0.out)
 have HE:=hide (he.keptS K0.out)
 have HQ:=hide (hq.keptS K0.out)
 clear ha hb he hq
 have p:=HBA.out.all
 cases h1:Pl.rgOk c.r
 ·go_enter func19,ntmps19
  go_wp2_with (go_at_call 46;refine (implGoodRegs _ c.r a b ca cb HA.out HB.out lx ly wf).mono ?_;rintro e9 W ⟨rfl,k9⟩;rw [h1];have HK1:=hide k9;have HB1:=hide (HBA.out.kept0 k9);have HE1:=hide (HE.out.keptS k9);have HQ1:=hide (HQ.out.keptS k9);clear k9 p;have p:=HB1.out.all)
  go_ret
  exact ⟨rB (by unfold Pl.cpOk;simp [h1]),K0.out.trans HK1.out⟩
 ·cases h2:Pl.goodBus c.bx c.bl c.bm
  ·go_enter func19,ntmps19
   go_wp2_with (first|(go_at_call 47;have z9:=HB1;refine (goodBus _ e q ce cq c.bm c.bx c.bl HE1.out HQ1.out lb ll lm).mono ?_;rintro e9 W2 ⟨rfl,k9⟩;rw [h2];have HK2:=hide k9;have HB2:=hide (HB1.out.kept0 k9);clear k9 p;have p:=HB2.out.all)|(go_at_call 46;refine (implGoodRegs _ c.r a b ca cb HA.out HB.out lx ly wf).mono ?_;rintro e9 W ⟨rfl,k9⟩;rw [h1];have HK1:=hide k9;have HB1:=hide (HBA.out.kept0 k9);have HE1:=hide (HE.out.keptS k9);have HQ1:=hide (HQ.out.keptS k9);clear k9 p;have p:=HB1.out.all))
   go_ret
   exact ⟨rB (by unfold Pl.cpOk;simp [h1,h2]),(K0.out.trans HK1.out).trans HK2.out⟩
  ·rcases Bool.eq_false_or_eq_true c.st with h3|h3
   all_goals
    have H3:=hide h3
    clear h3
    go_enter func19,ntmps19
    go_wp2_with (first|(go_at_call 47;have z9:=HB1;refine (goodBus _ e q ce cq c.bm c.bx c.bl HE1.out HQ1.out lb ll lm).mono ?_;rintro e9 W2 ⟨rfl,k9⟩;rw [h2];have HK2:=hide k9;have HB2:=hide (HB1.out.kept0 k9);clear k9 p;have p:=HB2.out.all;rw [H3.out] at p)|(go_at_call 46;refine (implGoodRegs _ c.r a b ca cb HA.out HB.out lx ly wf).mono ?_;rintro e9 W ⟨rfl,k9⟩;rw [h1];have HK1:=hide k9;have HB1:=hide (HBA.out.kept0 k9);have HE1:=hide (HE.out.keptS k9);have HQ1:=hide (HQ.out.keptS k9);clear k9 p;have p:=HB1.out.all))
    go_ret
    exact ⟨rB (by unfold Pl.cpOk;simp [h1,h2,H3.out]),(K0.out.trans HK1.out).trans HK2.out⟩
theorem CpuIn.mvx {w w':World} {base base' x y:Nat} {c:Pl.Cp} {a b e q:Option Addr} (h:CpuIn w base c a b e q) (k:Kept x y w w') (hy:y≤base) (hb:base'≤base):CpuIn w' base' c a b e q:=
 ⟨(SlotIn.kept h.d k (.inr (.inl hy))).wide hb k.size,(SlotIn.kept h.a' k (.inr (.inl hy))).wide hb k.size,(SlotIn.kept h.b' k (.inr (.inl hy))).wide hb k.size,(SlotIn.kept h.l k (.inr (.inl hy))).wide hb k.size,h.n1,h.n2,h.n3,h.n4,h.n5,h.n6⟩
theorem implEnterFault (w:World) (c:Pl.Cp) (f:Pl.Ft) (a b e q:Option Addr) (ca cb ce cq:Nat) (ha:Came w a c.r.xs) (hb:Came w b c.r.ys) (he:Came w e c.bx) (hq:Came w q c.bl) (lx:c.r.xs.length≤2000000) (ly:c.r.ys.length≤2000000) (lb:c.bx.length≤2000000) (ll:c.bl.length=5*c.bm) (lm:c.bm≤2000000) (wf:Pl.WfR c.r) (wff:Pl.WfF f) :
  Calls prog 8 #[.agg (cpA c a b e q ca cb ce cq),.agg (ftA f)] w fun r w'=>∃(a' b' e' q':Option Addr) (ca' cb' ce' cq':Nat),r=.returned (.tuple #[.agg (cpuV (Pl.efC c f) a' b' e' q' ca' cb' ce' cq'),.bool (Pl.efOk c f)])∧CpuIn w' w.heap.size (Pl.efC c f) a' b' e' q'∧Kept 0 0 w w':=by
 have K0:=hide (kept_new (kept_new (kept_alloc w (.cells (cpA c a b e q ca cb ce cq) 38)) (.cells (ftA f) 42)) (.cells cpZ 38))
 have B0:=hide (((Blk.new w (cpA c a b e q ca cb ce cq) 38).alloc (.cells (ftA f) 42)).alloc (.cells cpZ 38))
 have F0:=(Blk.new (w.alloc (.cells (cpA c a b e q ca cb ce cq) 38)) (ftA f) 42).alloc (.cells cpZ 38)
 have R0:=Blk.new ((w.alloc (.cells (cpA c a b e q ca cb ce cq) 38)).alloc (.cells (ftA f) 42)) cpZ 38
 simp only [World.size_alloc] at F0 R0
 replace F0:=hide F0
 replace R0:=hide R0
 obtain ⟨X,hX⟩:∃X:World,((w.alloc (.cells (cpA c a b e q ca cb ce cq) 38)).alloc (.cells (ftA f) 42)).alloc (.cells cpZ 38)=X:=⟨_,rfl⟩
 rw [hX] at K0 B0 F0 R0
 have sX:w.heap.size+1+1<X.heap.size:=R0.out.lt
 have HA:=hide (ha.keptS K0.out)
 have HB:=hide (hb.keptS K0.out)
 have HE:=hide (he.keptS K0.out)
 have HQ:=hide (hq.keptS K0.out)
 clear ha hb he hq
 have p:=B0.out.all
 have p2:=F0.out.all
 have p3:=R0.out.all
 have p4:=R0.out.fz
 cases h1:Pl.cpOk c
 ·have EO:Hid (Pl.efOk c f=false):=hide (by unfold Pl.efOk;rw [h1];rfl)
  have EC:Hid (Pl.efC c f=Pl.cpNo):=hide (by unfold Pl.efC;rw [EO.out];rfl)
  go_enter func8,ntmps8
  go_wp2_with (first|(go_at_call 19;refine (implGoodCpu _ c a b e q ca cb ce cq HA.out HB.out HE.out HQ.out lx ly lb ll lm wf).mono ?_;rintro e9 W1 ⟨rfl,k9⟩;rw [h1];have KX:=hide k9;have K1:=hide (K0.out.trans k9);have B1:=hide (B0.out.kept0 k9);have F1:=hide (F0.out.kept0 k9);have R1:=hide (R0.out.kept0 k9);clear k9 p p2 p3 p4;have p:=B1.out.all;(try unfold cpA at p);(try rw [HH.out] at p);have p2:=F1.out.all;have p3:=R1.out.all;have p4:=R1.out.fz))
  have s0:=K0.out.size
  refine bodyPost_ret (v:=.tuple #[.agg cpZ,.bool false]) ?_ rfl ⟨none,none,none,none,0,0,0,0,by rw [EC.out,EO.out];rfl,by rw [EC.out];exact cpuIn_no _ _,?kw⟩
  case kw=>repeat (first|with_reducible exact K1.out|refine kept_set ?_ _ _ _ (.inr (by omega)))
  rw [results_cell_tmp rfl];go_simp
 ·rcases Bool.eq_false_or_eq_true c.ha with h3|h3
  ·have HH:=hide h3
   clear h3
   have EO:Hid (Pl.efOk c f=false):=hide (by unfold Pl.efOk;rw [h1,HH.out];simp)
   have EC:Hid (Pl.efC c f=Pl.cpNo):=hide (by unfold Pl.efC;rw [EO.out];rfl)
   go_enter func8,ntmps8
   go_wp2_with (first|(go_at_call 19;refine (implGoodCpu _ c a b e q ca cb ce cq HA.out HB.out HE.out HQ.out lx ly lb ll lm wf).mono ?_;rintro e9 W1 ⟨rfl,k9⟩;rw [h1];have KX:=hide k9;have K1:=hide (K0.out.trans k9);have B1:=hide (B0.out.kept0 k9);have F1:=hide (F0.out.kept0 k9);have R1:=hide (R0.out.kept0 k9);clear k9 p p2 p3 p4;have p:=B1.out.all;(try unfold cpA at p);(try rw [HH.out] at p);have p2:=F1.out.all;have p3:=R1.out.all;have p4:=R1.out.fz))
   have s0:=K0.out.size
   refine bodyPost_ret (v:=.tuple #[.agg cpZ,.bool false]) ?_ rfl ⟨none,none,none,none,0,0,0,0,by rw [EC.out,EO.out];rfl,by rw [EC.out];exact cpuIn_no _ _,?kw⟩
   case kw=>repeat (first|with_reducible exact K1.out|refine kept_set ?_ _ _ _ (.inr (by omega)))
   rw [results_cell_tmp rfl];go_simp
  ·have HH:=hide h3
   clear h3
   cases h2:Pl.ftOk f
   ·have EO:Hid (Pl.efOk c f=false):=hide (by unfold Pl.efOk;rw [h1,h2];rfl)
    have EC:Hid (Pl.efC c f=Pl.cpNo):=hide (by unfold Pl.efC;rw [EO.out];rfl)
    go_enter func8,ntmps8
    go_wp2_with (first|(go_at_call 19;refine (implGoodCpu _ c a b e q ca cb ce cq HA.out HB.out HE.out HQ.out lx ly lb ll lm wf).mono ?_;rintro e9 W1 ⟨rfl,k9⟩;rw [h1];have KX:=hide k9;have K1:=hide (K0.out.trans k9);have B1:=hide (B0.out.kept0 k9);have F1:=hide (F0.out.kept0 k9);have R1:=hide (R0.out.kept0 k9);clear k9 p p2 p3 p4;have p:=B1.out.all;(try unfold cpA at p);(try rw [HH.out] at p);have p2:=F1.out.all;have p3:=R1.out.all;have p4:=R1.out.fz)|(go_at_call 20;refine (implGoodFault f _ wff).mono ?_;rintro e9 W2 ⟨rfl,k9⟩;rw [h2];have KY:=hide (KX.out.trans k9);have K2:=hide (K1.out.trans k9);have B2:=hide (B1.out.kept0 k9);have F2:=hide (F1.out.kept0 k9);have R2:=hide (R1.out.kept0 k9);clear k9 p p2 p3 p4;have p:=B2.out.all;(try unfold cpA at p);(try rw [HH.out] at p);have p2:=F2.out.all;have p3:=R2.out.all;have p4:=R2.out.fz))
    have s0:=K0.out.size
    refine bodyPost_ret (v:=.tuple #[.agg cpZ,.bool false]) ?_ rfl ⟨none,none,none,none,0,0,0,0,by rw [EC.out,EO.out];rfl,by rw [EC.out];exact cpuIn_no _ _,?kw⟩
    case kw=>repeat (first|with_reducible exact K2.out|refine kept_set ?_ _ _ _ (.inr (by omega)))
    rw [results_cell_tmp rfl];go_simp
   ·have EO:Hid (Pl.efOk c f=true):=hide (by unfold Pl.efOk;rw [h1,h2,HH.out];rfl)
    have EC:Hid (Pl.efC c f=Pl.entK c f c.r.m):=hide (by unfold Pl.efC;rw [EO.out];rfl)
    obtain ⟨M,hM⟩:∃M,M=Pl.entM c f c.r.m:=⟨_,rfl⟩
    have GN:Hid (Pl.GM M):=hide (by rw [hM];exact Pl.GM.entM h1 ll h2 c.r.m)
    have HG:=hide (Pl.GM.of h1 ll c.st)
    have HM:Hid ((Pl.Mc.ofC c).ent (Pl.entN (Pl.Mc.ofC c).r) (Pl.ftRow (Pl.Mc.ofC c).r f) f.v=M):=hide hM.symm
    obtain ⟨N,hN⟩:∃N,N=M.cpu (!M.fine):=⟨_,rfl⟩
    have EN:Hid (Pl.efC c f=N):=hide (by rw [EC.out,hN,hM];rfl)
    have HN:=hide hN
    have HFK:=hide h2
    clear hM hN
    go_enter func8,ntmps8
    go_wp2_with (first|(go_at_call 19;refine (implGoodCpu _ c a b e q ca cb ce cq HA.out HB.out HE.out HQ.out lx ly lb ll lm wf).mono ?_;rintro e9 W1 ⟨rfl,k9⟩;rw [h1];have KX:=hide k9;have K1:=hide (K0.out.trans k9);have B1:=hide (B0.out.kept0 k9);have F1:=hide (F0.out.kept0 k9);have R1:=hide (R0.out.kept0 k9);clear k9 p p2 p3 p4;have p:=B1.out.all;(try unfold cpA at p);(try rw [HH.out] at p);have p2:=F1.out.all;have p3:=R1.out.all;have p4:=R1.out.fz)|(go_at_call 20;refine (implGoodFault f _ wff).mono ?_;rintro e9 W2 ⟨rfl,k9⟩;rw [h2];have KY:=hide (KX.out.trans k9);have K2:=hide (K1.out.trans k9);have B2:=hide (B1.out.kept0 k9);have F2:=hide (F1.out.kept0 k9);have R2:=hide (R1.out.kept0 k9);clear k9 p p2 p3 p4;have p:=B2.out.all;(try unfold cpA at p);(try rw [HH.out] at p);have p2:=F2.out.all;have p3:=R2.out.all;have p4:=R2.out.fz)|(go_at_call 21;have hr9:=coreOf W2 c a b e q ca cb ce cq (HA.out.keptS KY.out).1 (HB.out.keptS KY.out).1 (HE.out.keptS KY.out).1 (HQ.out.keptS KY.out).1 HG.out.g.d4 HG.out.g.a4 HG.out.bx ll HG.out.bm;(try unfold cpA at hr9);rw [HH.out] at hr9;refine hr9.mono ?_;clear hr9;rintro e9 W3 ⟨P,g,rfl,hc9,k9⟩;have C3:=hide hc9;have K3:=hide (K2.out.trans k9);have F3:=hide (F2.out.kept0 k9);have R3:=hide (R2.out.kept0 k9);obtain ⟨y0,y1,y2,y3,y4⟩:=hc9.lt;have z9:=KY.out.size;clear hc9 k9 p p2 p3 p4;have p2:=F3.out.all)|(go_at_call 22;refine (cEnter _ W2.heap.size P g (Pl.Mc.ofC c) f C3.out HG.out rfl HFK.out).mono ?_;rw [HM.out];rintro e9 W4 ⟨g',rfl,hc9,hs9⟩;have C4:=hide hc9;have K4:=hide (kept_snc K3.out hs9 (by omega) (by omega));have R4:=hide (hs9.2.blk R3.out (by unfold own;omega));clear hc9 hs9 p2)|(go_at_call 23;have z:=C4;refine (cCpu _ W2.heap.size P g' M (!M.fine) C4.out GN.out).mono ?_;rw [←HN.out];rintro e9 W6 ⟨a',b',e',q',ca',cb',ce',cq',rfl,hi6,k6⟩;unfold cpuV;have I6:=hide hi6;have K6:=hide (K4.out.trans k6);have R6:=hide (R4.out.kept0 k6);have p6:=R6.out.all;have f6:=R6.out.fz;have z6:=k6.size;have zz4:=K4.out.size;clear k6 hi6))
    have s0:=K0.out.size
    refine bodyPost_ret (v:=.tuple #[.agg (cpA N a' b' e' q' ca' cb' ce' cq'),.bool true]) ?_ rfl ⟨a',b',e',q',ca',cb',ce',cq',by rw [EN.out,EO.out];rfl,?ci,?kw⟩
    case ci=>
     rw [EN.out]
     refine CpuIn.mvx (x:=w.heap.size+1+1) (y:=w.heap.size+1+1+1) I6.out ?_ (by omega) (by omega)
     repeat (first|with_reducible exact Kept.refl _ _ _|refine kept_set ?_ _ _ _ (.inl (by omega)))
    case kw=>repeat (first|with_reducible exact K6.out|refine kept_set ?_ _ _ _ (.inr (by omega)))
    rw [results_cell_tmp rfl];go_simp
theorem k12 {w:World} {b:Nat} {v0 v1 v2 v3 v4 v5 v6 v7 v8 v9 v10 v11:Value}:Kept b (b+1) w ((((((((((((w.setCell ⟨b,0,none⟩ v0).setCell ⟨b,1,none⟩ v1).setCell ⟨b,2,none⟩ v2).setCell ⟨b,3,none⟩ v3).setCell ⟨b,4,none⟩ v4).setCell ⟨b,5,none⟩ v5).setCell ⟨b,6,none⟩ v6).setCell ⟨b,7,none⟩ v7).setCell ⟨b,8,none⟩ v8).setCell ⟨b,9,none⟩ v9).setCell ⟨b,10,none⟩ v10).setCell ⟨b,11,none⟩ v11):=((((((((((((kept_one _ _ _ _).one _ _).one _ _).one _ _).one _ _).one _ _).one _ _).one _ _).one _ _).one _ _).one _ _).one _ _)
theorem Blk.fill12 {w:World} {b:Nat} {ty:TypeId} (h:Blk w b cpZ ty) (v0 v1 v2 v3 v4 v5 v6 v7 v8 v9 v10 v11:Value):Blk ((((((((((((w.setCell ⟨b,0,none⟩ v0).setCell ⟨b,1,none⟩ v1).setCell ⟨b,2,none⟩ v2).setCell ⟨b,3,none⟩ v3).setCell ⟨b,4,none⟩ v4).setCell ⟨b,5,none⟩ v5).setCell ⟨b,6,none⟩ v6).setCell ⟨b,7,none⟩ v7).setCell ⟨b,8,none⟩ v8).setCell ⟨b,9,none⟩ v9).setCell ⟨b,10,none⟩ v10).setCell ⟨b,11,none⟩ v11) b #[v0,v1,v2,v3,v4,v5,v6,v7,v8,v9,v10,v11] ty:=by
 have q:=(Blk.set (Blk.set (Blk.set (Blk.set (Blk.set (Blk.set (Blk.set (Blk.set (Blk.set (Blk.set (Blk.set (Blk.set h 0 v0) 1 v1) 2 v2) 3 v3) 4 v4) 5 v5) 6 v6) 7 v7) 8 v8) 9 v9) 10 v10) 11 v11)
 simp only [List.setIfInBounds_toArray,List.set_cons_zero,List.set_cons_succ] at q
 exact q
theorem CpuIn.sl2 {w:World} {base:Nat} {c:Pl.Cp} {a b e q:Option Addr} (h:CpuIn w base c a b e q):CpSl w base w.heap.size c a b e q:=
 ⟨h.d,h.a',h.b',h.l,h.n1,h.n2,h.n3,h.n4,h.n5,h.n6⟩
theorem Pl.ef_len (d:Pl.Cp) (f:Pl.Ft) (ll:d.bl.length=5*d.bm):(Pl.efC d f).r.xs.length≤400000∧(Pl.efC d f).r.ys.length≤400000∧(Pl.efC d f).bx.length≤400000∧(Pl.efC d f).bl.length=5*(Pl.efC d f).bm∧(Pl.efC d f).bm≤400000:=by
 unfold Pl.efC
 cases h:Pl.efOk d f
 ·exact ⟨show (0:Nat)≤400000 by decide,show (0:Nat)≤400000 by decide,show (0:Nat)≤400000 by decide,rfl,show (0:Nat)≤400000 by decide⟩
 ·simp only [Pl.efOk,Bool.and_eq_true] at h
  have G:=Pl.GM.entM h.1 ll h.2.1 d.r.m
  have h1:(Pl.entK d f d.r.m).r.xs.length=4:=G.g.d4
  have h2:(Pl.entK d f d.r.m).r.ys.length=4:=G.g.a4
  have h3:(Pl.entK d f d.r.m).bx.length=512:=G.bx
  have h4:(Pl.entK d f d.r.m).bm≤400:=G.bm
  show (Pl.entK d f d.r.m).r.xs.length≤_∧(Pl.entK d f d.r.m).r.ys.length≤_∧(Pl.entK d f d.r.m).bx.length≤_∧(Pl.entK d f d.r.m).bl.length=5*(Pl.entK d f d.r.m).bm∧(Pl.entK d f d.r.m).bm≤_
  exact ⟨by omega,by omega,by omega,G.bl,by omega⟩
theorem lawEnterFault (d:Pl.Cp) (a b e q:Option Addr) (ca cb ce cq:Nat) (f:Pl.Ft) (w:World) (hx:Came w a d.r.xs) (hy:Came w b d.r.ys) (hz:Came w e d.bx) (hq:Came w q d.bl) (lx:d.r.xs.length≤9223372036854775807) (ly:d.r.ys.length≤9223372036854775807) (lz:d.bx.length≤9223372036854775807) (lm:d.bm≤9223372036854775807) (ll:d.bl.length=5*d.bm) (wfd:Pl.WfR d.r) (wff:Pl.WfF f) :
  Calls prog 3 #[.agg (cpA d a b e q ca cb ce cq),.agg (ftA f)] w fun e w'=>e=.returned (.bool true)∧Below w.heap.size w w':=by
 have HX:=hide hx
 have HY:=hide hy
 have HZ:=hide hz
 have HQ:=hide hq
 have HWF:=hide wfd
 have HLL:=hide ll
 have hln:=Pl.ef_len d f ll
 have Bel:=hide (kept_new (kept_alloc w (.cells (cpA d a b e q ca cb ce cq) 29)) (.cells (ftA f) 31)).below
 have WA:=hide ((Blk.new w (cpA d a b e q ca cb ce cq) 29).alloc (.cells (ftA f) 31))
 have WF:=Blk.new (w.alloc (.cells (cpA d a b e q ca cb ce cq) 29)) (ftA f) 31
 simp only [World.size_alloc] at WF
 replace WF:=hide WF
 obtain ⟨X0,hX0⟩:∃X:World,(w.alloc (.cells (cpA d a b e q ca cb ce cq) 29)).alloc (.cells (ftA f) 31)=X:=⟨_,rfl⟩
 have nX0:X0.heap.size=w.heap.size+2:=by simp [←hX0]
 rw [hX0] at Bel WA WF
 clear hx hy hz hq wfd ll
 by_cases hs:szC d.r.xs.length d.r.ys.length d.bx.length d.bm 1048576<0
 ·go_enter func3,ntmps3
  have p0:=WA.out.all
  have p1:=WF.out.all
  go_wp2_with fail
  refine (szCpu _ d a b e q ca cb ce cq 1048576 lx ly lz lm (by decide) (by decide)).mono ?_
  rintro e9 w1 ⟨rfl,k⟩
  have Bn:=hide (below_kept Bel.out k (by omega))
  clear k
  go_wp2_with fail
  go_ret
  exact ⟨rfl,Bn.out⟩
 ·have hb:=szC_neg hs
  have bx:d.r.xs.length≤2000000:=by omega
  have by_:d.r.ys.length≤2000000:=by omega
  have bz:d.bx.length≤2000000:=by omega
  have bm:d.bm≤2000000:=by omega
  have ds:decide (szC d.r.xs.length d.r.ys.length d.bx.length d.bm 1048576<0)=false:=by simpa using hs
  clear hs hb
  generalize hVV:Pl.efC d f=V at hln
  generalize hKK:Pl.efOk d f=K
  obtain ⟨bD,bE,bF,bL,bM⟩:=hln
  have HDL:=hide bL
  have HVV:=hide hVV
  have HKK:=hide hKK
  clear hVV hKK bL
  go_enter func3,ntmps3
  have p0:=WA.out.all
  have p1:=WF.out.all
  go_wp2_with fail
  clear p0 p1
  refine (szCpu _ d a b e q ca cb ce cq 1048576 lx ly lz lm (by decide) (by decide)).mono ?_
  rintro e9 w1 ⟨rfl,k⟩
  have Beln:=hide (below_kept Bel.out k (by omega))
  have WAn:=hide (WA.out.kept k (by omega))
  have WFn:=hide (WF.out.kept k (by omega))
  clear Bel WA WF
  have Bel:=Beln
  have WA:=WAn
  have WF:=WFn
  clear Beln WAn WFn
  have nw1:=k.size
  clear k
  clear hX0
  have p0:=WA.out.all
  have p1:=WF.out.all
  go_wp2_with fail
  clear p0 p1 ds
  have p0:=WA.out.all
  have p1:=WF.out.all
  go_cut [22,23,24,25,26,21,27,28,6,7] (fun _ _ _ _ _ _ _ _ s6 s7 wx=>∃(B:Nat) (a0 b0 e0 q0:Option Addr) (ca0 cb0 ce0 cq0 lo hi:Nat),s6=.pointer (some ⟨B,0,none⟩)∧s7=.bool K∧Blk wx B (cpA V a0 b0 e0 q0 ca0 cb0 ce0 cq0) 38∧CpSl wx lo hi V a0 b0 e0 q0∧(B<lo∨hi≤B)∧w1.heap.size≤B∧B<wx.heap.size∧w1.heap.size≤lo∧lo≤hi∧hi≤wx.heap.size∧Kept 0 0 w1 wx)
  case first=>
   go_region_held3 (fun w'=>(∀i,w'.cell? ⟨w.heap.size,i,none⟩=(cpA d a b e q ca cb ce cq)[i]?)∧(∀i,w'.cell? ⟨w.heap.size+1,i,none⟩=(ftA f)[i]?)) (first|with_reducible exact ⟨A4.out.all,F4.out.all⟩|(with_reducible show (∀i,(World.alloc _ _).cell? _=_)∧_;exact ⟨(A4.out.alloc _).all,(F4.out.alloc _).all⟩)|with_reducible exact ⟨A3.out.all,F3.out.all⟩|(with_reducible show (∀i,(World.alloc _ _).cell? _=_)∧_;exact ⟨(A3.out.alloc _).all,(F3.out.alloc _).all⟩)|with_reducible exact ⟨A2.out.all,F2.out.all⟩|(with_reducible show (∀i,(World.alloc _ _).cell? _=_)∧_;exact ⟨(A2.out.alloc _).all,(F2.out.alloc _).all⟩)|with_reducible exact ⟨(Bd2 WA.out).all,(Bd2 WF.out).all⟩|with_reducible exact ⟨(Bd2 (WA.out.alloc _)).all,(Bd2 (WF.out.alloc _)).all⟩|(with_reducible show (∀i,(World.setCell _ _ _).cell? _=_)∧_;refine ⟨Blk.all (A4.out.kept k12 ?_),Blk.all (F4.out.kept k12 ?_)⟩<;>omega)) (first|(go_at_call 6;refine (toCpu _ d a b e q ca cb ce cq ((HX.out.below Bel.out).keptS (by first|exact (kept_drew (Kept.refl 0 0 w1))|exact kept_drew (kept_alloc w1 _))).1 ((HY.out.below Bel.out).keptS (by first|exact (kept_drew (Kept.refl 0 0 w1))|exact kept_drew (kept_alloc w1 _))).1 ((HZ.out.below Bel.out).keptS (by first|exact (kept_drew (Kept.refl 0 0 w1))|exact kept_drew (kept_alloc w1 _))).1 ((HQ.out.below Bel.out).keptS (by first|exact (kept_drew (Kept.refl 0 0 w1))|exact kept_drew (kept_alloc w1 _))).1 bx by_ bz HLL.out bm).mono ?_;rintro e9 y2 ⟨g1,g2,g3,g4,rfl,hs9,k9⟩;have K2:Hid (Kept 0 0 w1 y2):=hide (by first|exact (kept_drew (Kept.refl 0 0 w1)).trans k9|exact (kept_drew (kept_alloc w1 _)).trans k9);have n2:=K2.out.size;have O2:=hide hs9;have A2:=hide (WA.out.kept0 K2.out);have F2:=hide (WF.out.kept0 K2.out);(first|(have N2:=hide (N1.out.kept0 K2.out))|(have N2:Hid (Blk y2 w1.heap.size cpZ 38):=hide (Blk.kept0 (Bd2 (Blk.new w1 cpZ 38)) k9))|skip);clear k9 hs9)|(go_at_call 7;refine (toFault f _).mono ?_;rintro e9 y3 ⟨rfl,k9⟩;have K3:Hid (Kept 0 0 y2 y3):=hide (by first|exact k9|exact (kept_alloc _ _).trans k9);have n3:=K3.out.size;have O3':=hide (O2.out.kept K3.out (by omega));have A3:=hide (A2.out.kept0 K3.out);have F3:=hide (F2.out.kept0 K3.out);(first|(have N3:=hide (N2.out.kept0 K3.out))|(have N3:Hid (Blk y3 y2.heap.size cpZ 38):=hide (Blk.kept0 (Blk.new y2 cpZ 38) k9))|skip);clear k9)|(go_at_call 5;refine (specEnterFault _ d f _ _ _ _ _ _ _ _ (IRow.keptS O3'.out.d.row (by first|exact Kept.refl 0 0 y3|exact kept_alloc y3 _)) (IRow.keptS O3'.out.a'.row (by first|exact Kept.refl 0 0 y3|exact kept_alloc y3 _)) (IRow.keptS O3'.out.b'.row (by first|exact Kept.refl 0 0 y3|exact kept_alloc y3 _)) (IRow.keptS O3'.out.l.row (by first|exact Kept.refl 0 0 y3|exact kept_alloc y3 _)) bx by_ bz HLL.out bm).mono ?_;rw [HVV.out,HKK.out];unfold cpuV;rintro e9 y4 ⟨a0,b0,e0,q0,ca0,cb0,ce0,cq0,rfl,hin,k9⟩;have K4:Hid (Kept 0 0 y3 y4):=hide (by first|exact k9|exact (kept_alloc _ _).trans k9);have n4:=K4.out.size;have l4:=k9.size;(try simp only [World.size_alloc] at l4);have S4:=hide hin.sl2;(try simp only [World.size_alloc] at S4);have A4:=hide (A3.out.kept0 K4.out);have F4:=hide (F3.out.kept0 K4.out);(first|(have N4:=hide (N3.out.kept0 K4.out))|(have N4:Hid (Blk y4 y3.heap.size cpZ 38):=hide (Blk.kept0 (Blk.new y3 cpZ 38) k9))|skip);(first|have b3:=N3.out.lt|skip);(first|(have q4:=N4.out.all;have f4:=N4.out.fz)|skip);clear k9 hin))
   all_goals
    go_wp2_with fail
    go_meet
    case rel=>first|exact ⟨_,a0,b0,e0,q0,ca0,cb0,ce0,cq0,_,_,rfl,rfl,Blk.fill12 N4.out _ _ _ _ _ _ _ _ _ _ _ _,S4.out.kept k12 (by omega),.inl (by omega),by omega,Nat.lt_of_lt_of_le N4.out.lt k12.size,by omega,by omega,k12.size,kept_over (K2.out.trans (K3.out.trans K4.out)) k12 (by omega)⟩|exact ⟨_,a0,b0,e0,q0,ca0,cb0,ce0,cq0,_,_,rfl,rfl,Blk.new y4 _ _,S4.out.kept (kept_alloc y4 _) (by omega),.inr (Nat.le_refl _),by omega,by simp,by omega,by omega,by simp,kept_new (K2.out.trans (K3.out.trans K4.out)) _⟩
  case rest=>
  clear p0 p1
  rename World=>w3
  obtain ⟨B0,a0,b0,e0,q0,ca0,cb0,ce0,cq0,lo0,hi0,rfl,rfl,hb9,hs9,hd0,hB0,hL0,hl0,hm0,hh0,k⟩:=hcut
  have Beln:=hide (below_kept Bel.out k (by omega))
  have WAn:=hide (WA.out.kept k (by omega))
  have WFn:=hide (WF.out.kept k (by omega))
  clear Bel WA WF
  have Bel:=Beln
  have WA:=WAn
  have WF:=WFn
  clear Beln WAn WFn
  have nw3:=k.size
  have W0:=hide hb9
  have S0:=hide hs9
  clear k hb9 hs9
  have p0:=WA.out.all
  have p1:=WF.out.all
  go_wp2_with fail
  clear p0 p1
  refine (toCpu _ d a b e q ca cb ce cq (HX.out.below Bel.out).1 (HY.out.below Bel.out).1 (HZ.out.below Bel.out).1 (HQ.out.below Bel.out).1 bx by_ bz HLL.out bm).mono ?_
  rintro e9 w4 ⟨g5,g6,g7,g8,rfl,hs9,k⟩
  have Beln:=hide (below_kept Bel.out k (by omega))
  have WAn:=hide (WA.out.kept k (by omega))
  have WFn:=hide (WF.out.kept k (by omega))
  have W0n:=hide (W0.out.kept k (by omega))
  have S0n:=hide (S0.out.kept k (by omega))
  clear Bel WA WF W0 S0
  have Bel:=Beln
  have WA:=WAn
  have WF:=WFn
  have W0:=W0n
  have S0:=S0n
  clear Beln WAn WFn W0n S0n
  have nw4:=k.size
  have O3:=hide hs9
  clear k hs9
  have ka:Kept 0 0 w4 (w4.alloc (.cells (cpA d (some ⟨g5,0,none⟩) (some ⟨g6,0,none⟩) (some ⟨g7,0,none⟩) (some ⟨g8,0,none⟩) d.r.xs.length d.r.ys.length d.bx.length d.bm) 38)):=kept_alloc w4 _
  have Beln:=hide (below_kept Bel.out ka (by omega))
  have WAn:=hide (WA.out.kept ka (by omega))
  have WFn:=hide (WF.out.kept ka (by omega))
  have W0n:=hide (W0.out.kept ka (by omega))
  have S0n:=hide (S0.out.kept ka (by omega))
  have O3n:=hide (O3.out.kept ka (by omega))
  clear Bel WA WF W0 S0 O3
  have Bel:=Beln
  have WA:=WAn
  have WF:=WFn
  have W0:=W0n
  have S0:=S0n
  have O3:=O3n
  clear Beln WAn WFn W0n S0n O3n
  have B0:=Blk.new w4 (cpA d (some ⟨g5,0,none⟩) (some ⟨g6,0,none⟩) (some ⟨g7,0,none⟩) (some ⟨g8,0,none⟩) d.r.xs.length d.r.ys.length d.bx.length d.bm) 38
  obtain ⟨X4,hX4⟩:∃X:World,w4.alloc (.cells (cpA d (some ⟨g5,0,none⟩) (some ⟨g6,0,none⟩) (some ⟨g7,0,none⟩) (some ⟨g8,0,none⟩) d.r.xs.length d.r.ys.length d.bx.length d.bm) 38)=X:=⟨_,rfl⟩
  have nX4:X4.heap.size=w4.heap.size+1:=by simp [←hX4]
  rw [hX4] at Bel WA WF W0 S0 O3 B0
  have VA:=hide B0
  clear ka B0
  have p0:=VA.out.all
  have p1:=WF.out.all
  go_wp2_with fail
  clear p0 p1 hX4
  have HNX:=hide nX4
  have vlt:=VA.out.lt
  have wlt:=WF.out.lt
  clear nX4
  have p0:=VA.out.all
  have p1:=WF.out.all
  go_cut [32,33,34,35,31,36,37,9,10] (fun _ _ _ _ _ _ _ s6 s7 wx=>∃(B:Nat) (a1 b1 e1 q1:Option Addr) (ca1 cb1 ce1 cq1 lo hi:Nat),s6=.pointer (some ⟨B,0,none⟩)∧s7=.bool K∧Blk wx B (cpA V a1 b1 e1 q1 ca1 cb1 ce1 cq1) 38∧CpSl wx lo hi V a1 b1 e1 q1∧(B<lo∨hi≤B)∧X4.heap.size≤B∧B<wx.heap.size∧X4.heap.size≤lo∧lo≤hi∧hi≤wx.heap.size∧Kept 0 0 X4 wx)
  case first=>
   go_region_held3 (fun w'=>(∀i,w'.cell? ⟨w4.heap.size,i,none⟩=(cpA d (some ⟨g5,0,none⟩) (some ⟨g6,0,none⟩) (some ⟨g7,0,none⟩) (some ⟨g8,0,none⟩) d.r.xs.length d.r.ys.length d.bx.length d.bm)[i]?)∧(∀i,w'.cell? ⟨w.heap.size+1,i,none⟩=(ftA f)[i]?)) (first|with_reducible exact ⟨A4.out.all,F4.out.all⟩|(with_reducible show (∀i,(World.alloc _ _).cell? _=_)∧_;exact ⟨(A4.out.alloc _).all,(F4.out.alloc _).all⟩)|with_reducible exact ⟨A3.out.all,F3.out.all⟩|(with_reducible show (∀i,(World.alloc _ _).cell? _=_)∧_;exact ⟨(A3.out.alloc _).all,(F3.out.alloc _).all⟩)|with_reducible exact ⟨A2.out.all,F2.out.all⟩|(with_reducible show (∀i,(World.alloc _ _).cell? _=_)∧_;exact ⟨(A2.out.alloc _).all,(F2.out.alloc _).all⟩)|with_reducible exact ⟨(Bd2 VA.out).all,(Bd2 WF.out).all⟩|with_reducible exact ⟨(Bd2 (VA.out.alloc _)).all,(Bd2 (WF.out.alloc _)).all⟩|(with_reducible show (∀i,(World.setCell _ _ _).cell? _=_)∧_;refine ⟨Blk.all (A4.out.kept k12 ?_),Blk.all (F4.out.kept k12 ?_)⟩<;>omega)) (first|(go_at_call 7;refine (toFault f _).mono ?_;rintro e9 y3 ⟨rfl,k9⟩;have K3:Hid (Kept 0 0 X4 y3):=hide (by first|exact (kept_drew (Kept.refl 0 0 X4)).trans k9|exact (kept_drew (kept_alloc X4 _)).trans k9);have n3:=K3.out.size;have O3':=hide (O3.out.kept K3.out (by omega));have A3:=hide (VA.out.kept0 K3.out);have F3:=hide (WF.out.kept0 K3.out);(first|(have N3:=hide (N2.out.kept0 K3.out))|(have N3:Hid (Blk y3 X4.heap.size cpZ 38):=hide (Blk.kept0 (Bd2 (Blk.new X4 cpZ 38)) k9))|skip);clear k9)|(go_at_call 8;refine (implEnterFault _ d f _ _ _ _ _ _ _ _ ⟨IRow.keptS O3'.out.d.row (by first|exact Kept.refl 0 0 y3|exact kept_alloc y3 _),HX.out.2⟩ ⟨IRow.keptS O3'.out.a'.row (by first|exact Kept.refl 0 0 y3|exact kept_alloc y3 _),HY.out.2⟩ ⟨IRow.keptS O3'.out.b'.row (by first|exact Kept.refl 0 0 y3|exact kept_alloc y3 _),HZ.out.2⟩ ⟨IRow.keptS O3'.out.l.row (by first|exact Kept.refl 0 0 y3|exact kept_alloc y3 _),HQ.out.2⟩ bx by_ bz HLL.out bm HWF.out wff).mono ?_;rw [HVV.out,HKK.out];unfold cpuV;rintro e9 y4 ⟨a1,b1,e1,q1,ca1,cb1,ce1,cq1,rfl,hin,k9⟩;have K4:Hid (Kept 0 0 y3 y4):=hide (by first|exact k9|exact (kept_alloc _ _).trans k9);have n4:=K4.out.size;have l4:=k9.size;(try simp only [World.size_alloc] at l4);have S4:=hide hin.sl2;(try simp only [World.size_alloc] at S4);have A4:=hide (A3.out.kept0 K4.out);have F4:=hide (F3.out.kept0 K4.out);(first|(have N4:=hide (N3.out.kept0 K4.out))|(have N4:Hid (Blk y4 y3.heap.size cpZ 38):=hide (Blk.kept0 (Blk.new y3 cpZ 38) k9))|skip);(first|have b3:=N3.out.lt|skip);(first|(have q4:=N4.out.all;have f4:=N4.out.fz)|skip);clear k9 hin))
   all_goals
    go_wp2_with fail
    go_meet
    case rel=>first|exact ⟨_,a1,b1,e1,q1,ca1,cb1,ce1,cq1,_,_,rfl,rfl,Blk.fill12 N4.out _ _ _ _ _ _ _ _ _ _ _ _,S4.out.kept k12 (by omega),.inl (by omega),by omega,Nat.lt_of_lt_of_le N4.out.lt k12.size,by omega,by omega,k12.size,kept_over (K3.out.trans K4.out) k12 (by omega)⟩|exact ⟨_,a1,b1,e1,q1,ca1,cb1,ce1,cq1,_,_,rfl,rfl,Blk.new y4 _ _,S4.out.kept (kept_alloc y4 _) (by omega),.inr (Nat.le_refl _),by omega,by simp,by omega,by omega,by simp,kept_new (K3.out.trans K4.out) _⟩
  case rest=>
  clear p0 p1
  rename World=>w5
  obtain ⟨B1,a1,b1,e1,q1,ca1,cb1,ce1,cq1,lo1,hi1,rfl,rfl,hb9,hs9,hd1,hB1,hL1,hl1,hm1,hh1,k⟩:=hcut
  have Beln:=hide (below_kept Bel.out k (by omega))
  have WAn:=hide (WA.out.kept k (by omega))
  have WFn:=hide (WF.out.kept k (by omega))
  have W0n:=hide (W0.out.kept k (by omega))
  have S0n:=hide (S0.out.kept k (by omega))
  have O3n:=hide (O3.out.kept k (by omega))
  have VAn:=hide (VA.out.kept k (by omega))
  clear Bel WA WF W0 S0 O3 VA
  have Bel:=Beln
  have WA:=WAn
  have WF:=WFn
  have W0:=W0n
  have S0:=S0n
  have O3:=O3n
  have VA:=VAn
  clear Beln WAn WFn W0n S0n O3n VAn
  have nw5:=k.size
  have W1:=hide hb9
  have S1:=hide hs9
  clear k hb9 hs9
  have nX4:=HNX.out
  have p0:=W1.out.all
  have p1:=W0.out.all
  go_wp2_with fail
  clear p0 p1
  refine (eqCpu _ V a1 b1 e1 q1 a0 b0 e0 q0 _ _ _ _ _ _ _ _ S1.out.d.row S1.out.a'.row S1.out.b'.row S1.out.l.row S0.out.d.row S0.out.a'.row S0.out.b'.row S0.out.l.row (by omega) (by omega) (by omega) HDL.out (by omega)).mono ?_
  rintro e9 w6 ⟨rfl,k⟩
  have Beln:=hide (below_kept Bel.out k (by omega))
  have WAn:=hide (WA.out.kept k (by omega))
  have WFn:=hide (WF.out.kept k (by omega))
  have W0n:=hide (W0.out.kept k (by omega))
  have S0n:=hide (S0.out.kept k (by omega))
  have O3n:=hide (O3.out.kept k (by omega))
  have VAn:=hide (VA.out.kept k (by omega))
  have W1n:=hide (W1.out.kept k (by omega))
  have S1n:=hide (S1.out.kept k (by omega))
  clear Bel WA WF W0 S0 O3 VA W1 S1
  have Bel:=Beln
  have WA:=WAn
  have WF:=WFn
  have W0:=W0n
  have S0:=S0n
  have O3:=O3n
  have VA:=VAn
  have W1:=W1n
  have S1:=S1n
  clear Beln WAn WFn W0n S0n O3n VAn W1n S1n
  have nw6:=k.size
  clear k
  have p0:=WA.out.all
  have p1:=VA.out.all
  go_upto_region 10 with fail
  go_cut [47,48,49,50,51] (fun _ _ _ _ t wx=>t=.bool false∧Kept 0 0 w6 wx)
  case first=>
   go_region_with (first|(go_at_call 6;refine (toCpu _ d a b e q ca cb ce cq (HX.out.below Bel.out.drew).1 (HY.out.below Bel.out.drew).1 (HZ.out.below Bel.out.drew).1 (HQ.out.below Bel.out.drew).1 bx by_ bz HLL.out bm).mono ?_;rintro e9 w7 ⟨g9,g10,g11,g12,rfl,hs9,kd⟩;have k:=undrewK kd;have VN:=hide (VA.out.kept0 k);have u:=VN.out.all;have P3:=hide (O3.out.kept k (by omega));have P5:=hide hs9;have K7:=hide k;clear k kd hs9)|(go_at_call 9;refine (eqCpu _ d _ _ _ _ _ _ _ _ _ _ _ _ _ _ _ _ P3.out.d.row P3.out.a'.row P3.out.b'.row P3.out.l.row P5.out.d.row P5.out.a'.row P5.out.b'.row P5.out.l.row bx by_ bz HLL.out bm).mono ?_;rintro e9 w8 ⟨rfl,k⟩;have K8:=hide (K7.out.trans k);clear k))
   all_goals
    go_wp2_with fail
    go_meet
    case rel=>exact ⟨rfl,K8.out⟩
  case rest=>
  clear p0 p1
  rename World=>wx
  obtain ⟨rfl,k⟩:=hcut
  have Beln:=hide (below_kept Bel.out k (by omega))
  have WAn:=hide (WA.out.kept k (by omega))
  have WFn:=hide (WF.out.kept k (by omega))
  have W0n:=hide (W0.out.kept k (by omega))
  have S0n:=hide (S0.out.kept k (by omega))
  have O3n:=hide (O3.out.kept k (by omega))
  have VAn:=hide (VA.out.kept k (by omega))
  have W1n:=hide (W1.out.kept k (by omega))
  have S1n:=hide (S1.out.kept k (by omega))
  clear Bel WA WF W0 S0 O3 VA W1 S1
  have Bel:=Beln
  have WA:=WAn
  have WF:=WFn
  have W0:=W0n
  have S0:=S0n
  have O3:=O3n
  have VA:=VAn
  have W1:=W1n
  have S1:=S1n
  clear Beln WAn WFn W0n S0n O3n VAn W1n S1n
  have nwx:=k.size
  clear k
  have p0:=VA.out.all
  go_wp2_with fail
  clear p0
  refine (markCpu _ w3.heap.size w4.heap.size d _ _ _ _ _ _ _ _ O3.out (by omega) bx by_ bz HLL.out bm).mono ?_
  rintro e9 w9 ⟨rfl,_,k⟩
  clear O3
  have Beln:=hide (below_kept Bel.out k (by omega))
  have WAn:=hide (WA.out.kept k (by omega))
  have WFn:=hide (WF.out.kept k (by omega))
  have W0n:=hide (W0.out.kept k (by omega))
  have S0n:=hide (S0.out.kept k (by omega))
  have VAn:=hide (VA.out.kept k (by omega))
  have W1n:=hide (W1.out.kept k (by omega))
  have S1n:=hide (S1.out.kept k (by omega))
  clear Bel WA WF W0 S0 VA W1 S1
  have Bel:=Beln
  have WA:=WAn
  have WF:=WFn
  have W0:=W0n
  have S0:=S0n
  have VA:=VAn
  have W1:=W1n
  have S1:=S1n
  clear Beln WAn WFn W0n S0n VAn W1n S1n
  have nw9:=k.size
  clear k
  have hmk:¬(Pl.mkN d 1<0):=by unfold Pl.mkN;omega
  have p0:=W1.out.all
  have p1:=W0.out.all
  go_wp2_with fail
  clear p0 p1
  refine (eqCpu _ V a1 b1 e1 q1 a0 b0 e0 q0 _ _ _ _ _ _ _ _ S1.out.d.row S1.out.a'.row S1.out.b'.row S1.out.l.row S0.out.d.row S0.out.a'.row S0.out.b'.row S0.out.l.row (by omega) (by omega) (by omega) HDL.out (by omega)).mono ?_
  rintro e9 w10 ⟨rfl,k⟩
  have Beln:=hide (below_kept Bel.out k (by omega))
  have WAn:=hide (WA.out.kept k (by omega))
  have WFn:=hide (WF.out.kept k (by omega))
  have W0n:=hide (W0.out.kept k (by omega))
  have S0n:=hide (S0.out.kept k (by omega))
  have VAn:=hide (VA.out.kept k (by omega))
  have W1n:=hide (W1.out.kept k (by omega))
  have S1n:=hide (S1.out.kept k (by omega))
  clear Bel WA WF W0 S0 VA W1 S1
  have Bel:=Beln
  have WA:=WAn
  have WF:=WFn
  have W0:=W0n
  have S0:=S0n
  have VA:=VAn
  have W1:=W1n
  have S1:=S1n
  clear Beln WAn WFn W0n S0n VAn W1n S1n
  have nw10:=k.size
  clear k
  have p0:=W1.out.all
  go_wp2_with fail
  clear p0
  refine (markCpu _ lo1 hi1 V a1 b1 e1 q1 _ _ _ _ S1.out (by omega) (by omega) (by omega) (by omega) HDL.out (by omega)).mono ?_
  rintro e9 w11 ⟨rfl,hm9,k⟩
  clear S1
  have Beln:=hide (below_kept Bel.out k (by omega))
  have WAn:=hide (WA.out.kept k (by omega))
  have WFn:=hide (WF.out.kept k (by omega))
  have W0n:=hide (W0.out.kept k (by omega))
  have S0n:=hide (S0.out.kept k (by omega))
  have VAn:=hide (VA.out.kept k (by omega))
  have W1n:=hide (W1.out.kept k (by omega))
  clear Bel WA WF W0 S0 VA W1
  have Bel:=Beln
  have WA:=WAn
  have WF:=WFn
  have W0:=W0n
  have S0:=S0n
  have VA:=VAn
  have W1:=W1n
  clear Beln WAn WFn W0n S0n VAn W1n
  have M1:=hide hm9
  have nw11:=k.size
  clear k hm9
  have p0:=W1.out.all
  go_wp2_with fail
  clear p0
  have hmD:¬(Pl.mkN V 1<0):=by unfold Pl.mkN;omega
  refine (heldCpu _ V a1 b1 e1 q1 _ _ _ _ M1.out.d.row M1.out.a'.row M1.out.b'.row M1.out.l.row (by omega) (by omega) (by omega) (by omega)).mono ?_
  rintro e9 w12 ⟨rfl,k⟩
  have Beln:=hide (below_kept Bel.out k (by omega))
  have WAn:=hide (WA.out.kept k (by omega))
  have WFn:=hide (WF.out.kept k (by omega))
  have W0n:=hide (W0.out.kept k (by omega))
  have S0n:=hide (S0.out.kept k (by omega))
  have VAn:=hide (VA.out.kept k (by omega))
  have W1n:=hide (W1.out.kept k (by omega))
  have M1n:=hide (M1.out.kept k (by omega))
  clear Bel WA WF W0 S0 VA W1 M1
  have Bel:=Beln
  have WA:=WAn
  have WF:=WFn
  have W0:=W0n
  have S0:=S0n
  have VA:=VAn
  have W1:=W1n
  have M1:=M1n
  clear Beln WAn WFn W0n S0n VAn W1n M1n
  have nw12:=k.size
  clear k
  have p0:=WA.out.all
  have p1:=WF.out.all
  go_wp2_with fail
  clear p0 p1
  have p0:=WA.out.all
  have p1:=WF.out.all
  go_cut [80,81,82,83,84,79,85,86,14,15] (fun _ _ _ _ _ _ _ _ s6 s7 wx=>∃(B:Nat) (a2 b2 e2 q2:Option Addr) (ca2 cb2 ce2 cq2 lo hi:Nat),s6=.pointer (some ⟨B,0,none⟩)∧s7=.bool K∧Blk wx B (cpA V a2 b2 e2 q2 ca2 cb2 ce2 cq2) 38∧CpSl wx lo hi V a2 b2 e2 q2∧(B<lo∨hi≤B)∧w12.heap.size≤B∧B<wx.heap.size∧w12.heap.size≤lo∧lo≤hi∧hi≤wx.heap.size∧Kept 0 0 w12 wx)
  case first=>
   go_region_held3 (fun w'=>(∀i,w'.cell? ⟨w.heap.size,i,none⟩=(cpA d a b e q ca cb ce cq)[i]?)∧(∀i,w'.cell? ⟨w.heap.size+1,i,none⟩=(ftA f)[i]?)) (first|with_reducible exact ⟨A4.out.all,F4.out.all⟩|(with_reducible show (∀i,(World.alloc _ _).cell? _=_)∧_;exact ⟨(A4.out.alloc _).all,(F4.out.alloc _).all⟩)|with_reducible exact ⟨A3.out.all,F3.out.all⟩|(with_reducible show (∀i,(World.alloc _ _).cell? _=_)∧_;exact ⟨(A3.out.alloc _).all,(F3.out.alloc _).all⟩)|with_reducible exact ⟨A2.out.all,F2.out.all⟩|(with_reducible show (∀i,(World.alloc _ _).cell? _=_)∧_;exact ⟨(A2.out.alloc _).all,(F2.out.alloc _).all⟩)|with_reducible exact ⟨(Bd2 WA.out).all,(Bd2 WF.out).all⟩|with_reducible exact ⟨(Bd2 (WA.out.alloc _)).all,(Bd2 (WF.out.alloc _)).all⟩|(with_reducible show (∀i,(World.setCell _ _ _).cell? _=_)∧_;refine ⟨Blk.all (A4.out.kept k12 ?_),Blk.all (F4.out.kept k12 ?_)⟩<;>omega)) (first|(go_at_call 6;refine (toCpu _ d a b e q ca cb ce cq ((HX.out.below Bel.out).keptS (by first|exact (kept_drew (Kept.refl 0 0 w12))|exact kept_drew (kept_alloc w12 _))).1 ((HY.out.below Bel.out).keptS (by first|exact (kept_drew (Kept.refl 0 0 w12))|exact kept_drew (kept_alloc w12 _))).1 ((HZ.out.below Bel.out).keptS (by first|exact (kept_drew (Kept.refl 0 0 w12))|exact kept_drew (kept_alloc w12 _))).1 ((HQ.out.below Bel.out).keptS (by first|exact (kept_drew (Kept.refl 0 0 w12))|exact kept_drew (kept_alloc w12 _))).1 bx by_ bz HLL.out bm).mono ?_;rintro e9 y2 ⟨g1,g2,g3,g4,rfl,hs9,k9⟩;have K2:Hid (Kept 0 0 w12 y2):=hide (by first|exact (kept_drew (Kept.refl 0 0 w12)).trans k9|exact (kept_drew (kept_alloc w12 _)).trans k9);have n2:=K2.out.size;have O2:=hide hs9;have A2:=hide (WA.out.kept0 K2.out);have F2:=hide (WF.out.kept0 K2.out);(first|(have N2:=hide (N1.out.kept0 K2.out))|(have N2:Hid (Blk y2 w12.heap.size cpZ 38):=hide (Blk.kept0 (Bd2 (Blk.new w12 cpZ 38)) k9))|skip);clear k9 hs9)|(go_at_call 7;refine (toFault f _).mono ?_;rintro e9 y3 ⟨rfl,k9⟩;have K3:Hid (Kept 0 0 y2 y3):=hide (by first|exact k9|exact (kept_alloc _ _).trans k9);have n3:=K3.out.size;have O3':=hide (O2.out.kept K3.out (by omega));have A3:=hide (A2.out.kept0 K3.out);have F3:=hide (F2.out.kept0 K3.out);(first|(have N3:=hide (N2.out.kept0 K3.out))|(have N3:Hid (Blk y3 y2.heap.size cpZ 38):=hide (Blk.kept0 (Blk.new y2 cpZ 38) k9))|skip);clear k9)|(go_at_call 8;refine (implEnterFault _ d f _ _ _ _ _ _ _ _ ⟨IRow.keptS O3'.out.d.row (by first|exact Kept.refl 0 0 y3|exact kept_alloc y3 _),HX.out.2⟩ ⟨IRow.keptS O3'.out.a'.row (by first|exact Kept.refl 0 0 y3|exact kept_alloc y3 _),HY.out.2⟩ ⟨IRow.keptS O3'.out.b'.row (by first|exact Kept.refl 0 0 y3|exact kept_alloc y3 _),HZ.out.2⟩ ⟨IRow.keptS O3'.out.l.row (by first|exact Kept.refl 0 0 y3|exact kept_alloc y3 _),HQ.out.2⟩ bx by_ bz HLL.out bm HWF.out wff).mono ?_;rw [HVV.out,HKK.out];unfold cpuV;rintro e9 y4 ⟨a2,b2,e2,q2,ca2,cb2,ce2,cq2,rfl,hin,k9⟩;have K4:Hid (Kept 0 0 y3 y4):=hide (by first|exact k9|exact (kept_alloc _ _).trans k9);have n4:=K4.out.size;have l4:=k9.size;(try simp only [World.size_alloc] at l4);have S4:=hide hin.sl2;(try simp only [World.size_alloc] at S4);have A4:=hide (A3.out.kept0 K4.out);have F4:=hide (F3.out.kept0 K4.out);(first|(have N4:=hide (N3.out.kept0 K4.out))|(have N4:Hid (Blk y4 y3.heap.size cpZ 38):=hide (Blk.kept0 (Blk.new y3 cpZ 38) k9))|skip);(first|have b3:=N3.out.lt|skip);(first|(have q4:=N4.out.all;have f4:=N4.out.fz)|skip);clear k9 hin))
   all_goals
    go_wp2_with fail
    go_meet
    case rel=>first|exact ⟨_,a2,b2,e2,q2,ca2,cb2,ce2,cq2,_,_,rfl,rfl,Blk.fill12 N4.out _ _ _ _ _ _ _ _ _ _ _ _,S4.out.kept k12 (by omega),.inl (by omega),by omega,Nat.lt_of_lt_of_le N4.out.lt k12.size,by omega,by omega,k12.size,kept_over (K2.out.trans (K3.out.trans K4.out)) k12 (by omega)⟩|exact ⟨_,a2,b2,e2,q2,ca2,cb2,ce2,cq2,_,_,rfl,rfl,Blk.new y4 _ _,S4.out.kept (kept_alloc y4 _) (by omega),.inr (Nat.le_refl _),by omega,by simp,by omega,by omega,by simp,kept_new (K2.out.trans (K3.out.trans K4.out)) _⟩
  case rest=>
  clear p0 p1
  rename World=>w14
  obtain ⟨B2,a2,b2,e2,q2,ca2,cb2,ce2,cq2,lo2,hi2,rfl,rfl,hb9,hs9,hd2,hB2,hL2,hl2,hm2,hh2,k⟩:=hcut
  have Beln:=hide (below_kept Bel.out k (by omega))
  have WAn:=hide (WA.out.kept k (by omega))
  have WFn:=hide (WF.out.kept k (by omega))
  have W0n:=hide (W0.out.kept k (by omega))
  have S0n:=hide (S0.out.kept k (by omega))
  have VAn:=hide (VA.out.kept k (by omega))
  have W1n:=hide (W1.out.kept k (by omega))
  have M1n:=hide (M1.out.kept k (by omega))
  clear Bel WA WF W0 S0 VA W1 M1
  have Bel:=Beln
  have WA:=WAn
  have WF:=WFn
  have W0:=W0n
  have S0:=S0n
  have VA:=VAn
  have W1:=W1n
  have M1:=M1n
  clear Beln WAn WFn W0n S0n VAn W1n M1n
  have nw14:=k.size
  have W2:=hide hb9
  have S2:=hide hs9
  clear k hb9 hs9
  have p0:=W2.out.all
  have p1:=W0.out.all
  go_wp2_with fail
  clear p0 p1
  refine (eqCpu _ V a2 b2 e2 q2 a0 b0 e0 q0 _ _ _ _ _ _ _ _ S2.out.d.row S2.out.a'.row S2.out.b'.row S2.out.l.row S0.out.d.row S0.out.a'.row S0.out.b'.row S0.out.l.row (by omega) (by omega) (by omega) HDL.out (by omega)).mono ?_
  rintro e9 w15 ⟨rfl,k⟩
  have Beln:=hide (below_kept Bel.out k (by omega))
  have WAn:=hide (WA.out.kept k (by omega))
  have WFn:=hide (WF.out.kept k (by omega))
  have W0n:=hide (W0.out.kept k (by omega))
  have S0n:=hide (S0.out.kept k (by omega))
  have VAn:=hide (VA.out.kept k (by omega))
  have W1n:=hide (W1.out.kept k (by omega))
  have M1n:=hide (M1.out.kept k (by omega))
  have W2n:=hide (W2.out.kept k (by omega))
  have S2n:=hide (S2.out.kept k (by omega))
  clear Bel WA WF W0 S0 VA W1 M1 W2 S2
  have Bel:=Beln
  have WA:=WAn
  have WF:=WFn
  have W0:=W0n
  have S0:=S0n
  have VA:=VAn
  have W1:=W1n
  have M1:=M1n
  have W2:=W2n
  have S2:=S2n
  clear Beln WAn WFn W0n S0n VAn W1n M1n W2n S2n
  have nw15:=k.size
  clear k
  have p0:=W1.out.all
  go_wp2_with fail
  clear p0
  refine (heldCpu _ V a1 b1 e1 q1 _ _ _ _ M1.out.d.row M1.out.a'.row M1.out.b'.row M1.out.l.row (by omega) (by omega) (by omega) (by omega)).mono ?_
  rintro e9 w16 ⟨rfl,k⟩
  have Beln:=hide (below_kept Bel.out k (by omega))
  have WAn:=hide (WA.out.kept k (by omega))
  have WFn:=hide (WF.out.kept k (by omega))
  have W0n:=hide (W0.out.kept k (by omega))
  have S0n:=hide (S0.out.kept k (by omega))
  have VAn:=hide (VA.out.kept k (by omega))
  have W1n:=hide (W1.out.kept k (by omega))
  have M1n:=hide (M1.out.kept k (by omega))
  have W2n:=hide (W2.out.kept k (by omega))
  have S2n:=hide (S2.out.kept k (by omega))
  clear Bel WA WF W0 S0 VA W1 M1 W2 S2
  have Bel:=Beln
  have WA:=WAn
  have WF:=WFn
  have W0:=W0n
  have S0:=S0n
  have VA:=VAn
  have W1:=W1n
  have M1:=M1n
  have W2:=W2n
  have S2:=S2n
  clear Beln WAn WFn W0n S0n VAn W1n M1n W2n S2n
  have nw16:=k.size
  clear k
  go_wp2_with fail
  go_ret
  exact ⟨rfl,Bel.out⟩
open Go.RowKit Go.WideShapes Go.ChangeShapes Go.ChangeAt
set_option linter.unusedSimpArgs false
theorem Tryz.cellsInt:prog.cellsOf 3=1:=by kernel_rfl
theorem Tryz.cellsAcc:prog.cellsOf 112=5:=by kernel_rfl
theorem Tryz.cellsBus:prog.cellsOf 27=2:=by kernel_rfl
theorem Tryz.cellsBool:prog.cellsOf 4=1:=by kernel_rfl
theorem Tryz.cellsInts:prog.cellsOf 22=1:=by kernel_rfl
theorem Tryz.cellsAccs:prog.cellsOf 25=1:=by kernel_rfl
theorem Tryz.cellsRegs:prog.cellsOf 24=8:=by kernel_rfl
theorem Tryz.cellsCpu:prog.cellsOf 29=12:=by kernel_rfl
theorem Addr.add_add_own (a:Addr) (i j:Nat):(a.add i).add j=a.add (i+j):=by
 unfold Addr.add
 by_cases hi:i=0<;>by_cases hj:j=0<;>simp [hi,hj,Nat.add_assoc]
theorem came_of {w:World} {x:Addr} {n:Nat} (h:∀i,i<n→∃z:Int,w.cell? (x.add i)=some (iv z)∧(Lit.int .i64 z).wf=true):∃xs:List Int,xs.length=n∧Came w (some x) xs:=by
 obtain ⟨f,hf⟩:=Go.Deep.choose_lt h
 refine ⟨(List.range n).map f,by simp,?_,?_⟩
 ·intro i hi
  have hi':i<n:=by simpa using hi
  obtain ⟨g,off,spot⟩:=x
  have hspot:spot=none:=by simpa [Addr.add] using World.cell?_spot (hf 0 (by omega)).1
  subst hspot
  refine ⟨g,off,rfl,?_⟩
  have hc:=(hf i hi').1
  by_cases h0:i=0
  ·subst h0;simpa [Addr.add,hi'] using hc
  ·simpa [Addr.add,h0,hi'] using hc
 ·intro i hi
  have hi':i<n:=by simpa using hi
  have:=bounds_i64 (hf i hi').2
  simpa [hi'] using this
section
variable {H:Type} {enc:TypeId × Value→H} {w:World} {base:Nat} {spare:Nat→Bool} {held:Bool}
theorem open_intRow {fuel:Nat} {v:Value} {y:DataW H × List MemPlace} (h:DataW.trod enc prog w base spare held fuel 22 [v]=some y) :
  ∃(a:Option Addr) (cap:Nat) (xs:List Int),v=.slice a xs.length cap∧Came w a xs∧xs.length≤maxLen:=by
 rcases open_ints underlying22 underlying3 Tryz.cellsInt h with ⟨hc,_⟩|⟨x,len,cap,zs,hc,_,hl,hm,hz,_,hcell,hwz⟩
 ·simp at hc
  exact ⟨none,0,[],hc,⟨fun i hi=>absurd hi (Nat.not_lt_zero i),fun i hi=>absurd hi (Nat.not_lt_zero i)⟩,Nat.zero_le _⟩
 ·simp at hc
  have hlen:len≤zs.length:=by rw [hz];split<;>omega
  obtain ⟨xs,rfl,hx⟩:=came_of (w:=w) (x:=x) (n:=len) (fun i hi=>⟨zs.getD i 0,hcell i (by omega),hwz _ (by
   have:i<zs.length:=by omega
   simp [List.getD,this])⟩)
  exact ⟨some x,cap,xs,hc,hx,by omega⟩
theorem open_accRow {fuel:Nat} {v:Value} {y:DataW H × List MemPlace} (h:DataW.trod enc prog w base spare held fuel 25 [v]=some y) :
  ∃(a:Option Addr) (m cap:Nat) (ys:List Int),v=.slice a m cap∧Came w a ys∧ys.length=5*m∧m≤maxLen:=by
 rcases Go.Deep.open_slice underlying25 h with ⟨hc,_⟩|⟨x,len,cap,m,n,D,Pl,hc,_,hl,hm,hmm,_,hel⟩
 ·simp at hc
  exact ⟨none,0,0,[],hc,⟨fun i hi=>absurd hi (Nat.not_lt_zero i),fun i hi=>absurd hi (Nat.not_lt_zero i)⟩,rfl,Nat.zero_le _⟩
 ·simp at hc
  have hlen:len≤m:=by rw [hmm];split<;>omega
  obtain ⟨ys,hy,hx⟩:=came_of (w:=w) (x:=x) (n:=5*len) (by
   intro i hi
   obtain ⟨cs',h1,h2⟩:=hel (i/5) (by omega)
   rw [Tryz.cellsAcc] at h1
   obtain ⟨_,hl5,hcs⟩:=World.cells?_some h1
   obtain ⟨zs,k,_,_,_,hzl,hf⟩:=DataW.trod_struct underlying112 h2
   have hget:=hcs (i%5) (by omega)
   rw [Addr.add_add_own,show i/5*5+i%5=i from by omega] at hget
   rw [hget]
   obtain ⟨c0,c1,c2,c3,c4,rfl⟩:∃c0 c1 c2 c3 c4,cs'=[c0,c1,c2,c3,c4]:=by
    match cs',hl5 with
    | [c0,c1,c2,c3,c4],_=>exact ⟨c0,c1,c2,c3,c4,rfl⟩
   obtain ⟨z0,z1,z2,z3,z4,rfl⟩:∃z0 z1 z2 z3 z4,zs=[z0,z1,z2,z3,z4]:=by
    match zs,hzl with
    | [z0,z1,z2,z3,z4],_=>exact ⟨z0,z1,z2,z3,z4,rfl⟩
   have t0:=hf 0 _ rfl
   have t1:=hf 1 _ rfl
   have t2:=hf 2 _ rfl
   have t3:=hf 3 _ rfl
   have t4:=hf 4 _ rfl
   simp [Tryz.cellsInt] at t0 t1 t2 t3 t4
   obtain ⟨n0,e0,_,b0⟩:=DataW.trod_int underlying3 t0
   obtain ⟨n1,e1,_,b1⟩:=DataW.trod_int underlying3 t1
   obtain ⟨n2,e2,_,b2⟩:=DataW.trod_int underlying3 t2
   obtain ⟨n3,e3,_,b3⟩:=DataW.trod_int underlying3 t3
   obtain ⟨n4,e4,_,b4⟩:=DataW.trod_int underlying3 t4
   simp at e0 e1 e2 e3 e4
   subst e0 e1 e2 e3 e4
   obtain h|h|h|h|h:i%5=0∨i%5=1∨i%5=2∨i%5=3∨i%5=4:=by omega
   all_goals rw [h]
   ·exact ⟨n0,rfl,b0⟩
   ·exact ⟨n1,rfl,b1⟩
   ·exact ⟨n2,rfl,b2⟩
   ·exact ⟨n3,rfl,b3⟩
   ·exact ⟨n4,rfl,b4⟩)
  exact ⟨some x,len,cap,ys,hc,hx,hy,by omega⟩
theorem open_Cpu {r:Reach} {b0:Nat} {v:Value} {d:DataW H} {p:List MemPlace} (hv:Value.okWide prog w r b0 29 v) (h:DataW.Trod enc prog w base spare held 29 v d p) :
  ∃(a0:Option Addr) (c0:Nat) (x0:List Int) (a1:Option Addr) (c1:Nat) (x1:List Int) (i2 i3 i4 i5:Int) (i6 i7:Bool) (a8:Option Addr) (c8:Nat) (x8:List Int) (a9:Option Addr) (m9 c9:Nat) (x9:List Int) (i10 i11:Bool),v=.agg #[.slice a0 x0.length c0,.slice a1 x1.length c1,iv i2,iv i3,iv i4,iv i5,.bool i6,.bool i7,.slice a8 x8.length c8,.slice a9 m9 c9,.bool i10,.bool i11]∧(Came w a0 x0∧x0.length≤maxLen)∧(Came w a1 x1∧x1.length≤maxLen)∧(Lit.int .i64 i2).wf=true∧(Lit.int .i64 i3).wf=true∧(Lit.int .i64 i4).wf=true∧(Lit.int .i64 i5).wf=true∧(Came w a8 x8∧x8.length≤maxLen)∧(Came w a9 x9∧x9.length=5*m9∧m9≤maxLen):=by
 obtain ⟨cs,rfl,hsz⟩:=okWide_struct underlying29 hv
 rw [Tryz.cellsCpu] at hsz
 obtain ⟨cl⟩:=cs
 obtain ⟨c_0,c_1,c_2,c_3,c_4,c_5,c_6,c_7,c_8,c_9,c_10,c_11,rfl⟩:∃c_0 c_1 c_2 c_3 c_4 c_5 c_6 c_7 c_8 c_9 c_10 c_11,cl=[c_0,c_1,c_2,c_3,c_4,c_5,c_6,c_7,c_8,c_9,c_10,c_11]:=by
  match cl,hsz with
  | [c_0,c_1,c_2,c_3,c_4,c_5,c_6,c_7,c_8,c_9,c_10,c_11],_=>exact ⟨c_0,c_1,c_2,c_3,c_4,c_5,c_6,c_7,c_8,c_9,c_10,c_11,rfl⟩
 obtain ⟨fuel,hf0⟩:=h
 obtain ⟨zs,k,_,_,_,hzl,hf⟩:=DataW.trod_struct underlying29 hf0
 obtain ⟨y_0,y_1,y_2,y_3,rfl⟩:∃y_0 y_1 y_2 y_3,zs=[y_0,y_1,y_2,y_3]:=by
  match zs,hzl with
  | [y_0,y_1,y_2,y_3],_=>exact ⟨y_0,y_1,y_2,y_3,rfl⟩
 have s0:=hf 0 _ rfl
 have s1:=hf 1 _ rfl
 have s2:=hf 2 _ rfl
 have s3:=hf 3 _ rfl
 simp [Value.cells,Tryz.cellsRegs,Tryz.cellsBus,Tryz.cellsBool] at s0 s1 s2 s3
 obtain ⟨zs,k2,_,_,_,hzl,hr⟩:=DataW.trod_struct underlying24 s0
 obtain ⟨z_0,z_1,z_2,z_3,z_4,z_5,z_6,z_7,rfl⟩:∃z_0 z_1 z_2 z_3 z_4 z_5 z_6 z_7,zs=[z_0,z_1,z_2,z_3,z_4,z_5,z_6,z_7]:=by
  match zs,hzl with
  | [z_0,z_1,z_2,z_3,z_4,z_5,z_6,z_7],_=>exact ⟨z_0,z_1,z_2,z_3,z_4,z_5,z_6,z_7,rfl⟩
 have t0:=hr 0 _ rfl
 have t1:=hr 1 _ rfl
 have t2:=hr 2 _ rfl
 have t3:=hr 3 _ rfl
 have t4:=hr 4 _ rfl
 have t5:=hr 5 _ rfl
 have t6:=hr 6 _ rfl
 have t7:=hr 7 _ rfl
 simp [Value.cells,Tryz.cellsInt,Tryz.cellsBool,Tryz.cellsInts] at t0 t1 t2 t3 t4 t5 t6 t7
 obtain ⟨zs,k3,_,_,_,hzl,hb⟩:=DataW.trod_struct underlying27 s1
 obtain ⟨x_0,x_1,rfl⟩:∃x_0 x_1,zs=[x_0,x_1]:=by
  match zs,hzl with
  | [x_0,x_1],_=>exact ⟨x_0,x_1,rfl⟩
 have t8:=hb 0 _ rfl
 have t9:=hb 1 _ rfl
 simp [Value.cells,Tryz.cellsInts,Tryz.cellsAccs] at t8 t9
 obtain ⟨a0,c0,x0,q0,hx0,lx0⟩:=open_intRow t0
 obtain ⟨a1,c1,x1,q1,hx1,lx1⟩:=open_intRow t1
 obtain ⟨i2,q2,_,wf2⟩:=DataW.trod_int underlying3 t2
 obtain ⟨i3,q3,_,wf3⟩:=DataW.trod_int underlying3 t3
 obtain ⟨i4,q4,_,wf4⟩:=DataW.trod_int underlying3 t4
 obtain ⟨i5,q5,_,wf5⟩:=DataW.trod_int underlying3 t5
 obtain ⟨i6,q6,_⟩:=DataW.trod_bool underlying4 t6
 obtain ⟨i7,q7,_⟩:=DataW.trod_bool underlying4 t7
 obtain ⟨a8,c8,x8,q8,hx8,lx8⟩:=open_intRow t8
 obtain ⟨a9,m9,c9,x9,q9,hx9,ly9,lm9⟩:=open_accRow t9
 obtain ⟨i10,q10,_⟩:=DataW.trod_bool underlying4 s2
 obtain ⟨i11,q11,_⟩:=DataW.trod_bool underlying4 s3
 simp at q0 q1 q2 q3 q4 q5 q6 q7 q8 q9 q10 q11
 subst q0 q1 q2 q3 q4 q5 q6 q7 q8 q9 q10 q11
 exact ⟨a0,c0,x0,a1,c1,x1,i2,i3,i4,i5,i6,i7,a8,c8,x8,a9,m9,c9,x9,i10,i11,rfl,⟨hx0,lx0⟩,⟨hx1,lx1⟩,wf2,wf3,wf4,wf5,⟨hx8,lx8⟩,⟨hx9,ly9,lm9⟩⟩
end
set_option linter.unusedSimpArgs false
theorem Tryz.cellsFault:prog.cellsOf 31=5:=by kernel_rfl
section
variable {H:Type} {enc:TypeId × Value→H} {w:World} {base:Nat} {spare:Nat→Bool} {held:Bool}
theorem open_Fault {r:Reach} {b0:Nat} {v:Value} {d:DataW H} {p:List MemPlace} (hv:Value.okWide prog w r b0 31 v) (h:DataW.Trod enc prog w base spare held 31 v d p) :
  ∃(i0 i1 i2 i3:Int) (i4:Bool),v=.agg #[iv i0,iv i1,iv i2,iv i3,.bool i4]∧(Lit.int .i64 i0).wf=true∧(Lit.int .i64 i1).wf=true∧(Lit.int .i64 i2).wf=true∧(Lit.int .i64 i3).wf=true:=by
 obtain ⟨cs,rfl,hsz⟩:=okWide_struct underlying31 hv
 rw [Tryz.cellsFault] at hsz
 obtain ⟨cl⟩:=cs
 obtain ⟨c_0,c_1,c_2,c_3,c_4,rfl⟩:∃c_0 c_1 c_2 c_3 c_4,cl=[c_0,c_1,c_2,c_3,c_4]:=by
  match cl,hsz with
  | [c_0,c_1,c_2,c_3,c_4],_=>exact ⟨c_0,c_1,c_2,c_3,c_4,rfl⟩
 obtain ⟨fuel,hf0⟩:=h
 obtain ⟨zs,k,_,_,_,hzl,hf⟩:=DataW.trod_struct underlying31 hf0
 obtain ⟨y_0,y_1,y_2,y_3,y_4,rfl⟩:∃y_0 y_1 y_2 y_3 y_4,zs=[y_0,y_1,y_2,y_3,y_4]:=by
  match zs,hzl with
  | [y_0,y_1,y_2,y_3,y_4],_=>exact ⟨y_0,y_1,y_2,y_3,y_4,rfl⟩
 have s0:=hf 0 _ rfl
 have s1:=hf 1 _ rfl
 have s2:=hf 2 _ rfl
 have s3:=hf 3 _ rfl
 have s4:=hf 4 _ rfl
 simp [Value.cells,Tryz.cellsInt,Tryz.cellsBool] at s0 s1 s2 s3 s4
 obtain ⟨i0,q0,_,wf0⟩:=DataW.trod_int underlying3 s0
 obtain ⟨i1,q1,_,wf1⟩:=DataW.trod_int underlying3 s1
 obtain ⟨i2,q2,_,wf2⟩:=DataW.trod_int underlying3 s2
 obtain ⟨i3,q3,_,wf3⟩:=DataW.trod_int underlying3 s3
 obtain ⟨i4,q4⟩:=DataW.trod_bool underlying4 s4
 simp at q0 q1 q2 q3 q4
 subst q0 q1 q2 q3
 exact ⟨i0,i1,i2,i3,i4,by simp [q4],wf0,wf1,wf2,wf3⟩
end
theorem wfF {f:Pl.Ft} (h1:(Lit.int .i64 f.pc).wf=true) (h2:(Lit.int .i64 f.ad).wf=true) (h3:(Lit.int .i64 f.wo).wf=true):Pl.WfF f:=
 ⟨(bounds_i64 h1).1,(bounds_i64 h1).2,(bounds_i64 h2).1,(bounds_i64 h2).2,(bounds_i64 h3).1,(bounds_i64 h3).2⟩
end Go.Proofs.YtkkmnnhaailkcaaGreat
