/- Part 35 of what the last text leans on. -/
import Derived.Test.YtkkmnnhaailkcaaGreatDoorJA34
import Derived.Test.YtkkmnnhaailkcaaGreatDoorJA20
import Derived.Test.YtkkmnnhaailkcaaGreatDoorJA2
import Derived.Test.YtkkmnnhaailkcaaGreatDoorJA21
import Derived.Deep.DeepCutAuto
import Derived.Test.YtkkmnnhaailkcaaGreatDoorRows
import Derived.Test.YtkkmnnhaailkcaaGreatDoorJA32
import Derived.Lib.LaidTab
import Derived.Stop.LaidErr
import Derived.LaidMore
import Derived.Test.YtkkmnnhaailkcaaGreatDoorJA1
import Derived.Lib.SmallJoins
import Derived.Deep.Slices
import Derived.ProofKit
import Derived.OpenShut
set_option maxRecDepth 100000
set_option maxHeartbeats 16000000
namespace Go.Proofs.YtkkmnnhaailkcaaGreatDoor
open Go.RowKit Go.Proofs.Tryz
set_option linter.unusedVariables false
theorem JR {w:World} {q:Nat} {F:Pl.Ft} {ty:TypeId} (h:Blk w q (ftC F) ty):w.cell? ⟨q,0,none⟩=some (iv F.v)∧w.cell? ⟨q,1,none⟩=some (iv F.pc)∧w.cell? ⟨q,2,none⟩=some (iv F.ad)∧w.cell? ⟨q,3,none⟩=some (iv F.wo)∧w.cell? ⟨q,4,none⟩=some (.bool F.wr):=
 ⟨h.cell (i:=0) rfl,h.cell (i:=1) rfl,h.cell (i:=2) rfl,h.cell (i:=3) rfl,h.cell (i:=4) rfl⟩
theorem lQ.mvs {w w':World} {base base' x y:Nat} {c:Pl.Cp} {a b e q:Option Addr} (h:lQ w base c a b e q) (k:Kept x y w w') (hy:y≤base) (hb:base'≤base):lQ w' base' c a b e q:=
 ⟨(aZ.kept h.d k (.inr (.inl hy))).wide hb k.size,(aZ.kept h.a' k (.inr (.inl hy))).wide hb k.size,(aZ.kept h.b' k (.inr (.inl hy))).wide hb k.size,(aZ.kept h.l k (.inr (.inl hy))).wide hb k.size,h.n1,h.n2,h.n3,h.n4,h.n5,h.n6⟩
theorem zD {w a b:World} {lo hi g g':Nat} (k:Kept 0 0 w a) (h:Since a lo hi g b g') (hl:w.heap.size≤lo) (hg:w.heap.size≤g):Kept 0 0 w b:=
 ⟨h.2.os.trans k.os,h.2.tape.trans k.tape,h.2.output.trans k.output,Nat.le_trans k.size h.2.size,fun i hi _=>(h.2.block i (Nat.lt_of_lt_of_le hi k.size) (by unfold own;omega)).trans (k.block i hi (by omega))⟩
theorem lI {fn:Func} {p q v:Tmp} {ty tz:TypeId} (h:fn.results=#[.cell p ty,.cell q tz,.tmp v]) (tmps:Array Value) (P:Program) (w:World) :
  (results fn tmps).run P w=((asAddr (tmps.getD p undef)).run P w).andThen fun a w₁=>((loadVar ty a).run P w₁).andThen fun x w₂=>((asAddr (tmps.getD q undef)).run P w₂).andThen fun b w₃=>((loadVar tz b).run P w₃).andThen fun y w₄=>.ok (.tuple #[x,y,tmps.getD v undef]) w₄:=by
 simp only [results,h]
 simp [Sem.run_bind,Result.andThen]
theorem Ep {w W:World} {lo:Nat} (hs:oI w) (hn:rV w) (k:Kept 0 0 w W) (h:w.heap.size≤lo):jF W lo:=by
 have h1:=World.block_lt_of_cell? _ _ (hs 0 (by omega))
 have h2:=World.block_lt_of_cell? _ _ (hn 0 (by omega))
 exact ⟨hs.below k.below,hn.below k.below,Nat.lt_of_lt_of_le h1 h,Nat.lt_of_lt_of_le h2 h⟩
theorem rD {w:World} {p:Nat} {v0 v1 v2 v3 v4 v5 v6 v7 v8 v9 v10 v11:Value}:Kept p (p+1) w ((((((((((((w.setCell ⟨p,0,none⟩ (v0)).setCell ⟨p,1,none⟩ (v1)).setCell ⟨p,2,none⟩ (v2)).setCell ⟨p,3,none⟩ (v3)).setCell ⟨p,4,none⟩ (v4)).setCell ⟨p,5,none⟩ (v5)).setCell ⟨p,6,none⟩ (v6)).setCell ⟨p,7,none⟩ (v7)).setCell ⟨p,8,none⟩ (v8)).setCell ⟨p,9,none⟩ (v9)).setCell ⟨p,10,none⟩ (v10)).setCell ⟨p,11,none⟩ (v11)):=((((((((((((ak w p 0 (v0)).one 1 (v1)).one 2 (v2)).one 3 (v3)).one 4 (v4)).one 5 (v5)).one 6 (v6)).one 7 (v7)).one 8 (v8)).one 9 (v9)).one 10 (v10)).one 11 (v11))
theorem Blk.Ih {w:World} {q p:Nat} {cs:Array Value} {ty:TypeId} {v0 v1 v2 v3 v4 v5 v6 v7 v8 v9 v10 v11:Value} (h:Blk w q cs ty) (hn:q≠p):Blk ((((((((((((w.setCell ⟨p,0,none⟩ (v0)).setCell ⟨p,1,none⟩ (v1)).setCell ⟨p,2,none⟩ (v2)).setCell ⟨p,3,none⟩ (v3)).setCell ⟨p,4,none⟩ (v4)).setCell ⟨p,5,none⟩ (v5)).setCell ⟨p,6,none⟩ (v6)).setCell ⟨p,7,none⟩ (v7)).setCell ⟨p,8,none⟩ (v8)).setCell ⟨p,9,none⟩ (v9)).setCell ⟨p,10,none⟩ (v10)).setCell ⟨p,11,none⟩ (v11)) q cs ty:=h.kept ((((((((((((ak w p 0 (v0)).one 1 (v1)).one 2 (v2)).one 3 (v3)).one 4 (v4)).one 5 (v5)).one 6 (v6)).one 7 (v7)).one 8 (v8)).one 9 (v9)).one 10 (v10)).one 11 (v11)) (by omega)
theorem vG {w:World} {p:Nat} {v0 v1 v2 v3 v4:Value}:Kept p (p+1) w (((((w.setCell ⟨p,0,none⟩ (v0)).setCell ⟨p,1,none⟩ (v1)).setCell ⟨p,2,none⟩ (v2)).setCell ⟨p,3,none⟩ (v3)).setCell ⟨p,4,none⟩ (v4)):=(((((ak w p 0 (v0)).one 1 (v1)).one 2 (v2)).one 3 (v3)).one 4 (v4))
theorem Blk.Vd {w:World} {q p:Nat} {cs:Array Value} {ty:TypeId} {v0 v1 v2 v3 v4:Value} (h:Blk w q cs ty) (hn:q≠p):Blk (((((w.setCell ⟨p,0,none⟩ (v0)).setCell ⟨p,1,none⟩ (v1)).setCell ⟨p,2,none⟩ (v2)).setCell ⟨p,3,none⟩ (v3)).setCell ⟨p,4,none⟩ (v4)) q cs ty:=h.kept (((((ak w p 0 (v0)).one 1 (v1)).one 2 (v2)).one 3 (v3)).one 4 (v4)) (by omega)
theorem ug (w:World) (c:Pl.Cp) (a b e q:Option Addr) (ca cb ce cq:Nat) (ha:Came w a c.r.xs) (hb:Came w b c.r.ys) (he:Came w e c.bx) (hq:Came w q c.bl) (lx:c.r.xs.length≤2000000) (ly:c.r.ys.length≤2000000) (lb:c.bx.length≤2000000) (ll:c.bl.length=5*c.bm) (lm:c.bm≤2000000) (wf:Pl.WfR c.r) (ht:oI w) (hn:rV w) :
  Calls prog 20 #[.agg (cpA c a b e q ca cb ce cq)] w fun r w'=>∃(a' b' e' q':Option Addr) (ca' cb' ce' cq':Nat),r=.returned (.tuple #[.agg (pY (Pl.scC c) a' b' e' q' ca' cb' ce' cq'),.agg (ftC (Pl.scF c)),.bool (Pl.je c)])∧lQ w' w.heap.size (Pl.scC c) a' b' e' q'∧Kept 0 0 w w':=by
 have K0:=hide (ah (ah (kept_alloc w (.cells (cpA c a b e q ca cb ce cq) 36)) (.cells cpZ 36)) (.cells ftZ 49))
 have BA:=hide (((Blk.new w (cpA c a b e q ca cb ce cq) 36).alloc (.cells cpZ 36)).alloc (.cells ftZ 49))
 have R0:=(Blk.new (w.alloc (.cells (cpA c a b e q ca cb ce cq) 36)) cpZ 36).alloc (.cells ftZ 49)
 have Q0:=Blk.new ((w.alloc (.cells (cpA c a b e q ca cb ce cq) 36)).alloc (.cells cpZ 36)) ftZ 49
 simp only [World.size_alloc] at R0 Q0
 replace R0:=hide R0
 replace Q0:=hide Q0
 obtain ⟨X,hX⟩:∃X:World,((w.alloc (.cells (cpA c a b e q ca cb ce cq) 36)).alloc (.cells cpZ 36)).alloc (.cells ftZ 49)=X:=⟨_,rfl⟩
 rw [hX] at K0 BA R0 Q0
 have HA:=hide (ha.ai K0.o)
 have HB:=hide (hb.ai K0.o)
 have HE:=hide (he.ai K0.o)
 have HQ:=hide (hq.ai K0.o)
 have HS:=hide ht
 have HT:=hide hn
 have sX:w.heap.size+1+1<X.heap.size:=Q0.o.lt
 clear ha hb he hq ht hn
 have p:=BA.o.all
 cases h1:Pl.iP c
 ·have EO:Hid (Pl.je c=false):=hide (by unfold Pl.je;rw [h1];rfl)
  have EC:Hid (Pl.scC c=Pl.yB):=hide (by unfold Pl.scC;rw [EO.o];rfl)
  have EF:Hid (Pl.scF c=Pl.aH):=hide (by unfold Pl.scF;rw [EO.o];rfl)
  go_enter func20,ntmps20
  go_wp2_with (go_at_call 30;refine (lK _ c a b e q ca cb ce cq HA.o HB.o HE.o HQ.o lx ly lb ll lm wf).mono ?_;rintro e9 W1 ⟨rfl,k9⟩;rw [h1];have K1:=hide k9;have R1:=hide (R0.o.af k9);have Q1:=hide (Q0.o.af k9);have p1:=(BA.o.af k9).all;have r1:=R1.o.all;have rf1:=R1.o.fz;have q1:=Q1.o.all;have qf1:=Q1.o.fz;clear k9)
  have s1:=K1.o.size
  refine bodyPost_ret (v:=.tuple #[.agg cpZ,.agg ftZ,.bool false]) ?_ rfl ⟨none,none,none,none,0,0,0,0,by rw [EC.o,EF.o,EO.o];rfl,by rw [EC.o];exact ng _ _,dD (dD (K0.o.trans K1.o) rD (by omega)) vG (by omega)⟩
  rw [lI rfl];go_simp
 ·have HG:=hide (Pl.GM.of h1 ll c.st)
  rcases Bool.eq_false_or_eq_true c.st with hst|hst
  ·have EO:Hid (Pl.je c=false):=hide (by unfold Pl.je;rw [h1,hst];rfl)
   have EC:Hid (Pl.scC c=Pl.yB):=hide (by unfold Pl.scC;rw [EO.o];rfl)
   have EF:Hid (Pl.scF c=Pl.aH):=hide (by unfold Pl.scF;rw [EO.o];rfl)
   have HST:=hide hst
   clear hst
   go_enter func20,ntmps20
   go_wp2_with (go_at_call 30;refine (lK _ c a b e q ca cb ce cq HA.o HB.o HE.o HQ.o lx ly lb ll lm wf).mono ?_;rintro e9 W1 ⟨rfl,k9⟩;rw [h1];have K1:=hide k9;have R1:=hide (R0.o.af k9);have Q1:=hide (Q0.o.af k9);have p1:=(BA.o.af k9).all;(try unfold cpA at p1);rw [HST.o] at p1;have r1:=R1.o.all;have rf1:=R1.o.fz;have q1:=Q1.o.all;have qf1:=Q1.o.fz;clear k9)
   have s1:=K1.o.size
   refine bodyPost_ret (v:=.tuple #[.agg cpZ,.agg ftZ,.bool false]) ?_ rfl ⟨none,none,none,none,0,0,0,0,by rw [EC.o,EF.o,EO.o];rfl,by rw [EC.o];exact ng _ _,dD (dD (K0.o.trans K1.o) rD (by omega)) vG (by omega)⟩
   rw [lI rfl];go_simp
  ·rcases Bool.eq_false_or_eq_true c.ha with hh|hh
   ·have EO:Hid (Pl.je c=false):=hide (by unfold Pl.je;rw [h1,hst,hh];rfl)
    have EC:Hid (Pl.scC c=Pl.yB):=hide (by unfold Pl.scC;rw [EO.o];rfl)
    have EF:Hid (Pl.scF c=Pl.aH):=hide (by unfold Pl.scF;rw [EO.o];rfl)
    have HST:=hide hst
    have HH:=hide hh
    clear hst hh
    go_enter func20,ntmps20
    go_wp2_with (go_at_call 30;refine (lK _ c a b e q ca cb ce cq HA.o HB.o HE.o HQ.o lx ly lb ll lm wf).mono ?_;rintro e9 W1 ⟨rfl,k9⟩;rw [h1];have K1:=hide k9;have R1:=hide (R0.o.af k9);have Q1:=hide (Q0.o.af k9);have p1:=(BA.o.af k9).all;(try unfold cpA at p1);rw [HST.o,HH.o] at p1;have r1:=R1.o.all;have rf1:=R1.o.fz;have q1:=Q1.o.all;have qf1:=Q1.o.fz;clear k9)
    have s1:=K1.o.size
    refine bodyPost_ret (v:=.tuple #[.agg cpZ,.agg ftZ,.bool false]) ?_ rfl ⟨none,none,none,none,0,0,0,0,by rw [EC.o,EF.o,EO.o];rfl,by rw [EC.o];exact ng _ _,dD (dD (K0.o.trans K1.o) rD (by omega)) vG (by omega)⟩
    rw [lI rfl];go_simp
   ·have EO:Hid (Pl.je c=true):=hide (by unfold Pl.je;rw [h1,hst,hh];rfl)
    obtain ⟨e1,e2,e3⟩:=Pl.Ns c (show Pl.GM (Pl.Mc.ofC c) from HG.o)
    obtain ⟨M,hM⟩:∃M,M=(Pl.Mc.ofC c).sp:=⟨_,rfl⟩
    obtain ⟨F,hF⟩:∃F,F=M.f:=⟨_,rfl⟩
    obtain ⟨N,hN⟩:∃N,N=M.cpu false:=⟨_,rfl⟩
    have EC:Hid (Pl.scC c=N):=hide (by unfold Pl.scC;rw [EO.o,hN,hM,e2];rfl)
    have EF:Hid (Pl.scF c=F):=hide (by unfold Pl.scF;rw [EO.o,hF,hM,e1];rfl)
    have HGM:Hid (Pl.GM M):=hide (by rw [hM];exact e3)
    have HST:=hide hst
    have HH:=hide hh
    have HM:=hide hM
    have HF:=hide hF
    have HN:=hide hN
    clear hst hh hM hF hN e1 e2 e3
    go_enter func20,ntmps20
    go_wp2_with (first|(go_at_call 30;refine (lK _ c a b e q ca cb ce cq HA.o HB.o HE.o HQ.o lx ly lb ll lm wf).mono ?_;rintro e9 W1 ⟨rfl,k9⟩;rw [h1];have K1:=hide k9;have R1:=hide (R0.o.af k9);have Q1:=hide (Q0.o.af k9);have p1:=(BA.o.af k9).all;(try unfold cpA at p1);rw [HST.o,HH.o] at p1;have r1:=R1.o.all;have rf1:=R1.o.fz;have q1:=Q1.o.all;have qf1:=Q1.o.fz;clear k9)|(go_at_call 31;have hr9:=Tu W1 c a b e q ca cb ce cq (HA.o.ai K1.o).1 (HB.o.ai K1.o).1 (HE.o.ai K1.o).1 (HQ.o.ai K1.o).1 HG.o.g.d4 HG.o.g.a4 HG.o.bx ll HG.o.bm;(try unfold cpA at hr9);rw [HST.o,HH.o] at hr9;refine hr9.mono ?_;rintro e9 W3 ⟨P,g,rfl,hc9,k9⟩;have C3:=hide hc9;have R3:=hide (R1.o.af k9);have Q3:=hide (Q1.o.af k9);have K3:=hide ((K0.o.trans K1.o).trans k9);have s3:X.heap.size≤W1.heap.size:=K1.o.size;obtain ⟨y0,y1,y2,y3,y4⟩:=hc9.lt;clear hc9 k9 hr9))
    clear p p1 r1 rf1 q1 qf1 hX
    refine (V4 _ W1.heap.size P g (Pl.Mc.ofC c) false C3.o (show Pl.GM (Pl.Mc.ofC c) from HG.o) rfl (Ep HS.o HT.o K3.o (by omega))).mono ?_
    rintro e9 W4 ⟨g',rfl,hc4,hs4⟩
    rw [←HM.o] at hc4 ⊢
    rw [←HF.o]
    have C4:=hide (hc4.alloc (.cells (ftC F) 49))
    have R4:=hide ((hs4.2.blk R3.o (by unfold own;omega)).alloc (.cells (ftC F) 49))
    have Q4:=hide ((hs4.2.blk Q3.o (by unfold own;omega)).alloc (.cells (ftC F) 49))
    have L4:=hide (Blk.new W4 (ftC F) 49)
    have S4:=hide hs4
    obtain ⟨x0,x1,x2,x3,x4⟩:=hc4.lt
    have s4:=hs4.size
    unfold ftC
    clear hc4 hs4
    go_wp2_with fail
    obtain ⟨Y,hY⟩:∃Y:World,Y=W4.alloc (.cells (ftA F) 49):=⟨_,rfl⟩
    rw [←hY]
    have C5:Hid (CAt Y W1.heap.size P g' M false):=hide (by rw [hY];exact C4.o)
    have R5:Hid (Blk Y (w.heap.size+1) cpZ 36):=hide (by rw [hY];exact R4.o)
    have Q5:Hid (Blk Y (w.heap.size+1+1) ftZ 49):=hide (by rw [hY];exact Q4.o)
    have L5:Hid (Blk Y W4.heap.size (ftC F) 49):=hide (by rw [hY];exact L4.o)
    have K5:Hid (Kept 0 0 w Y):=hide (by rw [hY];exact ah (zD K3.o S4.o (by omega) (by omega)) _)
    clear hY C4 R4 Q4 L4
    obtain ⟨t0,t1,t2,t3,t4⟩:=JR L5.o
    go_region_held3 (fun w'=>w'.cell? ⟨W4.heap.size,0,none⟩=some (iv F.v)∧w'.cell? ⟨W4.heap.size,1,none⟩=some (iv F.pc)∧w'.cell? ⟨W4.heap.size,2,none⟩=some (iv F.ad)∧w'.cell? ⟨W4.heap.size,3,none⟩=some (iv F.wo)∧w'.cell? ⟨W4.heap.size,4,none⟩=some (.bool F.wr)) (first|with_reducible exact JR L6.o|with_reducible exact JR (Bd' L5.o)|with_reducible exact JR (L6.o.Ih (by omega))|with_reducible exact JR ((L6.o.Ih (by omega)).Vd (by omega)))
     (first|(go_at_call 33;refine (XZ _ W1.heap.size P g' M false C5.o.drew HGM.o).mono ?_;rintro e9 W6 ⟨a',b',e',q',ca',cb',ce',cq',rfl,hi6,kd⟩;have k6:=bW kd;rw [←HN.o] at hi6 ⊢;unfold pY;have I6:=hide hi6;have L6:=hide (L5.o.af k6);have R6:=hide (R5.o.af k6);have Q6:=hide (Q5.o.af k6);have K6:=hide (K5.o.trans k6);have p6:=R6.o.all;have f6:=R6.o.fz;have q6:=Q6.o.all;have g6:=Q6.o.fz;clear kd k6 hi6))
    go_wp2_with fail
    refine bodyPost_ret (v:=.tuple #[.agg (cpA N a' b' e' q' ca' cb' ce' cq'),.agg (ftA F),.bool true]) ?_ rfl ⟨a',b',e',q',ca',cb',ce',cq',by rw [EC.o,EF.o,EO.o];rfl,by rw [EC.o];exact (I6.o.mvs rD (by omega) (Nat.le_refl _)).mvs vG (by omega) (by omega),dD (dD K6.o rD (by omega)) vG (by omega)⟩
    rw [lI rfl];go_simp
theorem BD (d:Pl.Cp) (a b e q:Option Addr) (ca cb ce cq:Nat) (w:World) (ht:oI w) (hn:rV w) (hx:Came w a d.r.xs) (hy:Came w b d.r.ys) (hz:Came w e d.bx) (hq:Came w q d.bl) (lx:d.r.xs.length≤9223372036854775807) (ly:d.r.ys.length≤9223372036854775807) (lz:d.bx.length≤9223372036854775807) (lm:d.bm≤9223372036854775807) (ll:d.bl.length=5*d.bm) (wfd:Pl.WfR d.r) :
  Calls prog 5 #[.agg (cpA d a b e q ca cb ce cq)] w fun e w'=>e=.returned (.bool true)∧Below w.heap.size w w':=by
 have HS:=hide ht
 have HT:=hide hn
 have HX:=hide hx
 have HY:=hide hy
 have HZ:=hide hz
 have HQ:=hide hq
 have HWF:=hide wfd
 have HLL:=hide ll
 have Bel:=hide (kept_alloc w (.cells (cpA d a b e q ca cb ce cq) 29)).below
 have WA:=hide (Blk.new w (cpA d a b e q ca cb ce cq) 29)
 obtain ⟨X0,hX0⟩:∃X:World,w.alloc (.cells (cpA d a b e q ca cb ce cq) 29)=X:=⟨_,rfl⟩
 have nX0:X0.heap.size=w.heap.size+1:=by simp [←hX0]
 rw [hX0] at Bel WA
 have hln:=Pl.Rj d ll
 clear ht hn hx hy hz hq wfd ll
 by_cases hs:szC d.r.xs.length d.r.ys.length d.bx.length d.bm 1048576<0
 ·go_enter func5,ntmps5
  have ja:=WA.o.all
  go_wp2_with fail
  refine (Qn _ d a b e q ca cb ce cq 1048576 lx ly lz lm (by decide) (by decide)).mono ?_
  rintro e9 w1 ⟨rfl,k⟩
  have Bn:=hide (bi Bel.o k (by omega))
  clear k
  go_wp2_with fail
  go_ret
  exact ⟨rfl,Bn.o⟩
 ·have hb:=Nh hs
  have bx:d.r.xs.length≤2000000:=by omega
  have by_:d.r.ys.length≤2000000:=by omega
  have bz:d.bx.length≤2000000:=by omega
  have bm:d.bm≤2000000:=by omega
  have ds:decide (szC d.r.xs.length d.r.ys.length d.bx.length d.bm 1048576<0)=false:=by simpa using hs
  clear hs hb
  generalize hDD:Pl.scC d=D at hln
  generalize hFF:Pl.scF d=F
  generalize hKK:Pl.je d=K
  obtain ⟨bD,bE,bF,bL,bM⟩:=hln
  have HDL:=hide bL
  have HDD:=hide hDD
  have HFF:=hide hFF
  have HKK:=hide hKK
  clear bL hDD hFF hKK
  go_enter func5,ntmps5
  have ja:=WA.o.all
  go_wp2_with fail
  clear ja
  refine (Qn _ d a b e q ca cb ce cq 1048576 lx ly lz lm (by decide) (by decide)).mono ?_
  rintro e9 w1 ⟨rfl,k⟩
  have Beln:=hide (bi Bel.o k (by omega))
  have WAn:=hide (WA.o.kept k (by omega))
  clear Bel WA
  have Bel:=Beln
  have WA:=WAn
  clear Beln WAn
  have nw1:=k.size
  clear k
  clear hX0
  have ja:=WA.o.all
  go_wp2_with fail
  clear ja ds
  refine (CU _ d a b e q ca cb ce cq (HX.o.below Bel.o).1 (HY.o.below Bel.o).1 (HZ.o.below Bel.o).1 (HQ.o.below Bel.o).1 bx by_ bz HLL.o bm).mono ?_
  rintro e9 w2 ⟨g1,g2,g3,g4,rfl,hs9,k⟩
  have Beln:=hide (bi Bel.o k (by omega))
  have WAn:=hide (WA.o.kept k (by omega))
  clear Bel WA
  have Bel:=Beln
  have WA:=WAn
  clear Beln WAn
  have nw2:=k.size
  have O1:=hide hs9
  clear k hs9
  go_wp2_with fail
  refine (yU _ d _ _ _ _ _ _ _ _ O1.o.d.row O1.o.a'.row O1.o.b'.row O1.o.l.row bx by_ bz HLL.o bm).mono ?_
  rw [HDD.o,HFF.o,HKK.o]
  unfold pY ftC
  rintro e9 w3 ⟨a0,b0,e0,q0,ca0,cb0,ce0,cq0,rfl,hin,k⟩
  have hsl:=hin.sl
  have Beln:=hide (bi Bel.o k (by omega))
  have WAn:=hide (WA.o.kept k (by omega))
  have O1n:=hide (O1.o.kept k (by omega))
  clear Bel WA O1
  have Bel:=Beln
  have WA:=WAn
  have O1:=O1n
  clear Beln WAn O1n
  have nw3:=k.size
  have S0:=hide hsl
  clear k hin hsl
  clear O1
  have ka:Kept 0 0 w3 ((w3.alloc (.cells (cpA D a0 b0 e0 q0 ca0 cb0 ce0 cq0) 36)).alloc (.cells (ftA F) 49)):=ah (kept_alloc w3 _) _
  have Beln:=hide (bi Bel.o ka (by omega))
  have WAn:=hide (WA.o.kept ka (by omega))
  have S0n:=hide (S0.o.kept ka (by omega))
  clear Bel WA S0
  have Bel:=Beln
  have WA:=WAn
  have S0:=S0n
  clear Beln WAn S0n
  have B0:=((Blk.new w3 (cpA D a0 b0 e0 q0 ca0 cb0 ce0 cq0) 36).alloc (.cells (ftA F) 49))
  have B1:=(Blk.new (w3.alloc (.cells (cpA D a0 b0 e0 q0 ca0 cb0 ce0 cq0) 36)) (ftA F) 49)
  simp only [World.size_alloc] at B1
  obtain ⟨X3,hX3⟩:∃X:World,((w3.alloc (.cells (cpA D a0 b0 e0 q0 ca0 cb0 ce0 cq0) 36)).alloc (.cells (ftA F) 49))=X:=⟨_,rfl⟩
  have nX3:X3.heap.size=w3.heap.size+2:=by simp [←hX3]
  rw [hX3] at Bel WA S0 B0 B1
  have W0:=hide B0
  have F0:=hide B1
  clear ka B0 B1
  have ja:=WA.o.all
  go_wp2_with fail
  clear ja hX3
  refine (CU _ d a b e q ca cb ce cq (HX.o.below Bel.o).1 (HY.o.below Bel.o).1 (HZ.o.below Bel.o).1 (HQ.o.below Bel.o).1 bx by_ bz HLL.o bm).mono ?_
  rintro e9 w4 ⟨g5,g6,g7,g8,rfl,hs9,k⟩
  have Beln:=hide (bi Bel.o k (by omega))
  have WAn:=hide (WA.o.kept k (by omega))
  have S0n:=hide (S0.o.kept k (by omega))
  have W0n:=hide (W0.o.kept k (by omega))
  have F0n:=hide (F0.o.kept k (by omega))
  clear Bel WA S0 W0 F0
  have Bel:=Beln
  have WA:=WAn
  have S0:=S0n
  have W0:=W0n
  have F0:=F0n
  clear Beln WAn S0n W0n F0n
  have nw4:=k.size
  have O3:=hide hs9
  clear k hs9
  have ka:Kept 0 0 w4 (w4.alloc (.cells (cpA d (some ⟨g5,0,none⟩) (some ⟨g6,0,none⟩) (some ⟨g7,0,none⟩) (some ⟨g8,0,none⟩) d.r.xs.length d.r.ys.length d.bx.length d.bm) 36)):=kept_alloc w4 _
  have Beln:=hide (bi Bel.o ka (by omega))
  have WAn:=hide (WA.o.kept ka (by omega))
  have S0n:=hide (S0.o.kept ka (by omega))
  have W0n:=hide (W0.o.kept ka (by omega))
  have F0n:=hide (F0.o.kept ka (by omega))
  have O3n:=hide (O3.o.kept ka (by omega))
  clear Bel WA S0 W0 F0 O3
  have Bel:=Beln
  have WA:=WAn
  have S0:=S0n
  have W0:=W0n
  have F0:=F0n
  have O3:=O3n
  clear Beln WAn S0n W0n F0n O3n
  have B0:=(Blk.new w4 (cpA d (some ⟨g5,0,none⟩) (some ⟨g6,0,none⟩) (some ⟨g7,0,none⟩) (some ⟨g8,0,none⟩) d.r.xs.length d.r.ys.length d.bx.length d.bm) 36)
  obtain ⟨X4,hX4⟩:∃X:World,(w4.alloc (.cells (cpA d (some ⟨g5,0,none⟩) (some ⟨g6,0,none⟩) (some ⟨g7,0,none⟩) (some ⟨g8,0,none⟩) d.r.xs.length d.r.ys.length d.bx.length d.bm) 36))=X:=⟨_,rfl⟩
  have nX4:X4.heap.size=w4.heap.size+1:=by simp [←hX4]
  rw [hX4] at Bel WA S0 W0 F0 O3 B0
  have VA:=hide B0
  clear ka B0
  have ja:=VA.o.all
  go_wp2_with fail
  clear ja hX4
  refine (ug _ d _ _ _ _ _ _ _ _ ⟨O3.o.d.row,HX.o.2⟩ ⟨O3.o.a'.row,HY.o.2⟩ ⟨O3.o.b'.row,HZ.o.2⟩ ⟨O3.o.l.row,HQ.o.2⟩ bx by_ bz HLL.o bm HWF.o (HS.o.below Bel.o) (HT.o.below Bel.o)).mono ?_
  rw [HDD.o,HFF.o,HKK.o]
  unfold pY ftC
  rintro e9 w5 ⟨a1,b1,e1,q1,ca1,cb1,ce1,cq1,rfl,hin,k⟩
  have hsl:=hin.sl
  have Beln:=hide (bi Bel.o k (by omega))
  have WAn:=hide (WA.o.kept k (by omega))
  have S0n:=hide (S0.o.kept k (by omega))
  have W0n:=hide (W0.o.kept k (by omega))
  have F0n:=hide (F0.o.kept k (by omega))
  have O3n:=hide (O3.o.kept k (by omega))
  have VAn:=hide (VA.o.kept k (by omega))
  clear Bel WA S0 W0 F0 O3 VA
  have Bel:=Beln
  have WA:=WAn
  have S0:=S0n
  have W0:=W0n
  have F0:=F0n
  have O3:=O3n
  have VA:=VAn
  clear Beln WAn S0n W0n F0n O3n VAn
  have nw5:=k.size
  have S1:=hide hsl
  clear k hin hsl
  have ka:Kept 0 0 w5 ((w5.alloc (.cells (cpA D a1 b1 e1 q1 ca1 cb1 ce1 cq1) 36)).alloc (.cells (ftA F) 49)):=ah (kept_alloc w5 _) _
  have Beln:=hide (bi Bel.o ka (by omega))
  have WAn:=hide (WA.o.kept ka (by omega))
  have S0n:=hide (S0.o.kept ka (by omega))
  have W0n:=hide (W0.o.kept ka (by omega))
  have F0n:=hide (F0.o.kept ka (by omega))
  have O3n:=hide (O3.o.kept ka (by omega))
  have VAn:=hide (VA.o.kept ka (by omega))
  have S1n:=hide (S1.o.kept ka (by omega))
  clear Bel WA S0 W0 F0 O3 VA S1
  have Bel:=Beln
  have WA:=WAn
  have S0:=S0n
  have W0:=W0n
  have F0:=F0n
  have O3:=O3n
  have VA:=VAn
  have S1:=S1n
  clear Beln WAn S0n W0n F0n O3n VAn S1n
  have B0:=((Blk.new w5 (cpA D a1 b1 e1 q1 ca1 cb1 ce1 cq1) 36).alloc (.cells (ftA F) 49))
  have B1:=(Blk.new (w5.alloc (.cells (cpA D a1 b1 e1 q1 ca1 cb1 ce1 cq1) 36)) (ftA F) 49)
  simp only [World.size_alloc] at B1
  obtain ⟨X5,hX5⟩:∃X:World,((w5.alloc (.cells (cpA D a1 b1 e1 q1 ca1 cb1 ce1 cq1) 36)).alloc (.cells (ftA F) 49))=X:=⟨_,rfl⟩
  have nX5:X5.heap.size=w5.heap.size+2:=by simp [←hX5]
  rw [hX5] at Bel WA S0 W0 F0 O3 VA S1 B0 B1
  have W1:=hide B0
  have F1:=hide B1
  clear ka B0 B1
  have ja:=W1.o.all
  have sK:=W0.o.all
  go_wp2_with fail
  clear ja sK hX5
  refine (DT _ D a1 b1 e1 q1 a0 b0 e0 q0 _ _ _ _ _ _ _ _ S1.o.d.row S1.o.a'.row S1.o.b'.row S1.o.l.row S0.o.d.row S0.o.a'.row S0.o.b'.row S0.o.l.row (by omega) (by omega) (by omega) HDL.o (by omega)).mono ?_
  rintro e9 w6 ⟨rfl,k⟩
  have Beln:=hide (bi Bel.o k (by omega))
  have WAn:=hide (WA.o.kept k (by omega))
  have S0n:=hide (S0.o.kept k (by omega))
  have W0n:=hide (W0.o.kept k (by omega))
  have F0n:=hide (F0.o.kept k (by omega))
  have O3n:=hide (O3.o.kept k (by omega))
  have VAn:=hide (VA.o.kept k (by omega))
  have S1n:=hide (S1.o.kept k (by omega))
  have W1n:=hide (W1.o.kept k (by omega))
  have F1n:=hide (F1.o.kept k (by omega))
  clear Bel WA S0 W0 F0 O3 VA S1 W1 F1
  have Bel:=Beln
  have WA:=WAn
  have S0:=S0n
  have W0:=W0n
  have F0:=F0n
  have O3:=O3n
  have VA:=VAn
  have S1:=S1n
  have W1:=W1n
  have F1:=F1n
  clear Beln WAn S0n W0n F0n O3n VAn S1n W1n F1n
  have nw6:=k.size
  clear k
  have ja:=F1.o.all
  have sK:=F0.o.all
  go_wp2_with fail
  clear ja sK
  refine (yx _ F).mono ?_
  rintro e9 w6f ⟨rfl,k⟩
  have Beln:=hide (bi Bel.o k (by omega))
  have WAn:=hide (WA.o.kept k (by omega))
  have S0n:=hide (S0.o.kept k (by omega))
  have W0n:=hide (W0.o.kept k (by omega))
  have F0n:=hide (F0.o.kept k (by omega))
  have O3n:=hide (O3.o.kept k (by omega))
  have VAn:=hide (VA.o.kept k (by omega))
  have S1n:=hide (S1.o.kept k (by omega))
  have W1n:=hide (W1.o.kept k (by omega))
  have F1n:=hide (F1.o.kept k (by omega))
  clear Bel WA S0 W0 F0 O3 VA S1 W1 F1
  have Bel:=Beln
  have WA:=WAn
  have S0:=S0n
  have W0:=W0n
  have F0:=F0n
  have O3:=O3n
  have VA:=VAn
  have S1:=S1n
  have W1:=W1n
  have F1:=F1n
  clear Beln WAn S0n W0n F0n O3n VAn S1n W1n F1n
  have nw6f:=k.size
  clear k
  have ja:=WA.o.all
  have sK:=VA.o.all
  go_upto_region 10 with fail
  go_cut [52,53,54,55,56] (fun _ _ _ _ t wx=>t=.bool false∧Kept 0 0 w6f wx)
  case first=>
   go_region_with (first|(go_at_call 9;refine (CU _ d a b e q ca cb ce cq (HX.o.below Bel.o.drew).1 (HY.o.below Bel.o.drew).1 (HZ.o.below Bel.o.drew).1 (HQ.o.below Bel.o.drew).1 bx by_ bz HLL.o bm).mono ?_;rintro e9 w7 ⟨g9,g10,g11,g12,rfl,hs9,kd⟩;have k:=bW kd;have VN:=hide (VA.o.af k);have u0:=VN.o.cell (i:=0) rfl;have u1:=VN.o.cell (i:=1) rfl;have u2:=VN.o.cell (i:=2) rfl;have u3:=VN.o.cell (i:=3) rfl;have u4:=VN.o.cell (i:=4) rfl;have u5:=VN.o.cell (i:=5) rfl;have u6:=VN.o.cell (i:=6) rfl;have u7:=VN.o.cell (i:=7) rfl;have u8:=VN.o.cell (i:=8) rfl;have u9:=VN.o.cell (i:=9) rfl;have u10:=VN.o.cell (i:=10) rfl;have u11:=VN.o.cell (i:=11) rfl;have P3:=hide (O3.o.kept k (by omega));have P5:=hide hs9;have K7:=hide k;clear k kd hs9)|(go_at_call 11;refine (DT _ d _ _ _ _ _ _ _ _ _ _ _ _ _ _ _ _ P3.o.d.row P3.o.a'.row P3.o.b'.row P3.o.l.row P5.o.d.row P5.o.a'.row P5.o.b'.row P5.o.l.row bx by_ bz HLL.o bm).mono ?_;rintro e9 w8 ⟨rfl,k⟩;have K8:=hide (K7.o.trans k);clear k))
   all_goals
    go_wp2_with fail
    go_meet
    case rel=>exact ⟨rfl,K8.o⟩
  case rest=>
   clear ja sK
   rename_i wx
   obtain ⟨rfl,k⟩:=hcut
   have Beln:=hide (bi Bel.o k (by omega))
   have WAn:=hide (WA.o.kept k (by omega))
   have S0n:=hide (S0.o.kept k (by omega))
   have W0n:=hide (W0.o.kept k (by omega))
   have F0n:=hide (F0.o.kept k (by omega))
   have O3n:=hide (O3.o.kept k (by omega))
   have VAn:=hide (VA.o.kept k (by omega))
   have S1n:=hide (S1.o.kept k (by omega))
   have W1n:=hide (W1.o.kept k (by omega))
   have F1n:=hide (F1.o.kept k (by omega))
   clear Bel WA S0 W0 F0 O3 VA S1 W1 F1
   have Bel:=Beln
   have WA:=WAn
   have S0:=S0n
   have W0:=W0n
   have F0:=F0n
   have O3:=O3n
   have VA:=VAn
   have S1:=S1n
   have W1:=W1n
   have F1:=F1n
   clear Beln WAn S0n W0n F0n O3n VAn S1n W1n F1n
   have nwx:=k.size
   clear k
   have ja:=VA.o.all
   go_wp2_with fail
   clear ja
   refine (Dt _ X3.heap.size w4.heap.size d _ _ _ _ _ _ _ _ O3.o (by omega) bx by_ bz HLL.o bm).mono ?_
   rintro e9 w9 ⟨rfl,_,k⟩
   clear O3
   have Beln:=hide (bi Bel.o k (by omega))
   have WAn:=hide (WA.o.kept k (by omega))
   have S0n:=hide (S0.o.kept k (by omega))
   have W0n:=hide (W0.o.kept k (by omega))
   have F0n:=hide (F0.o.kept k (by omega))
   have VAn:=hide (VA.o.kept k (by omega))
   have S1n:=hide (S1.o.kept k (by omega))
   have W1n:=hide (W1.o.kept k (by omega))
   have F1n:=hide (F1.o.kept k (by omega))
   clear Bel WA S0 W0 F0 VA S1 W1 F1
   have Bel:=Beln
   have WA:=WAn
   have S0:=S0n
   have W0:=W0n
   have F0:=F0n
   have VA:=VAn
   have S1:=S1n
   have W1:=W1n
   have F1:=F1n
   clear Beln WAn S0n W0n F0n VAn S1n W1n F1n
   have nw9:=k.size
   clear k
   have hmk:¬(Pl.mkN d 1<0):=by unfold Pl.mkN;omega
   have ja:=W1.o.all
   have sK:=W0.o.all
   go_wp2_with fail
   clear ja sK
   refine (DT _ D a1 b1 e1 q1 a0 b0 e0 q0 _ _ _ _ _ _ _ _ S1.o.d.row S1.o.a'.row S1.o.b'.row S1.o.l.row S0.o.d.row S0.o.a'.row S0.o.b'.row S0.o.l.row (by omega) (by omega) (by omega) HDL.o (by omega)).mono ?_
   rintro e9 w10 ⟨rfl,k⟩
   have Beln:=hide (bi Bel.o k (by omega))
   have WAn:=hide (WA.o.kept k (by omega))
   have S0n:=hide (S0.o.kept k (by omega))
   have W0n:=hide (W0.o.kept k (by omega))
   have F0n:=hide (F0.o.kept k (by omega))
   have VAn:=hide (VA.o.kept k (by omega))
   have S1n:=hide (S1.o.kept k (by omega))
   have W1n:=hide (W1.o.kept k (by omega))
   have F1n:=hide (F1.o.kept k (by omega))
   clear Bel WA S0 W0 F0 VA S1 W1 F1
   have Bel:=Beln
   have WA:=WAn
   have S0:=S0n
   have W0:=W0n
   have F0:=F0n
   have VA:=VAn
   have S1:=S1n
   have W1:=W1n
   have F1:=F1n
   clear Beln WAn S0n W0n F0n VAn S1n W1n F1n
   have nw10:=k.size
   clear k
   have ja:=F1.o.all
   have sK:=F0.o.all
   go_wp2_with fail
   clear ja sK
   refine (yx _ F).mono ?_
   rintro e9 w10f ⟨rfl,k⟩
   have Beln:=hide (bi Bel.o k (by omega))
   have WAn:=hide (WA.o.kept k (by omega))
   have S0n:=hide (S0.o.kept k (by omega))
   have W0n:=hide (W0.o.kept k (by omega))
   have F0n:=hide (F0.o.kept k (by omega))
   have VAn:=hide (VA.o.kept k (by omega))
   have S1n:=hide (S1.o.kept k (by omega))
   have W1n:=hide (W1.o.kept k (by omega))
   have F1n:=hide (F1.o.kept k (by omega))
   clear Bel WA S0 W0 F0 VA S1 W1 F1
   have Bel:=Beln
   have WA:=WAn
   have S0:=S0n
   have W0:=W0n
   have F0:=F0n
   have VA:=VAn
   have S1:=S1n
   have W1:=W1n
   have F1:=F1n
   clear Beln WAn S0n W0n F0n VAn S1n W1n F1n
   have nw10f:=k.size
   clear k
   have ja:=W1.o.all
   go_wp2_with fail
   clear ja
   refine (Dt _ X4.heap.size w5.heap.size D a1 b1 e1 q1 _ _ _ _ S1.o (by omega) (by omega) (by omega) (by omega) HDL.o (by omega)).mono ?_
   rintro e9 w11 ⟨rfl,hm9,k⟩
   clear S1
   have Beln:=hide (bi Bel.o k (by omega))
   have WAn:=hide (WA.o.kept k (by omega))
   have S0n:=hide (S0.o.kept k (by omega))
   have W0n:=hide (W0.o.kept k (by omega))
   have F0n:=hide (F0.o.kept k (by omega))
   have VAn:=hide (VA.o.kept k (by omega))
   have W1n:=hide (W1.o.kept k (by omega))
   have F1n:=hide (F1.o.kept k (by omega))
   clear Bel WA S0 W0 F0 VA W1 F1
   have Bel:=Beln
   have WA:=WAn
   have S0:=S0n
   have W0:=W0n
   have F0:=F0n
   have VA:=VAn
   have W1:=W1n
   have F1:=F1n
   clear Beln WAn S0n W0n F0n VAn W1n F1n
   have M1:=hide hm9
   have nw11:=k.size
   clear k hm9
   have ja:=W1.o.all
   go_wp2_with fail
   clear ja
   have hmD:¬(Pl.mkN D 1<0):=by unfold Pl.mkN;omega
   refine (DJ _ D a1 b1 e1 q1 _ _ _ _ M1.o.d.row M1.o.a'.row M1.o.b'.row M1.o.l.row (by omega) (by omega) (by omega) (by omega)).mono ?_
   rintro e9 w12 ⟨rfl,k⟩
   have Beln:=hide (bi Bel.o k (by omega))
   have WAn:=hide (WA.o.kept k (by omega))
   have S0n:=hide (S0.o.kept k (by omega))
   have W0n:=hide (W0.o.kept k (by omega))
   have F0n:=hide (F0.o.kept k (by omega))
   have VAn:=hide (VA.o.kept k (by omega))
   have W1n:=hide (W1.o.kept k (by omega))
   have F1n:=hide (F1.o.kept k (by omega))
   have M1n:=hide (M1.o.kept k (by omega))
   clear Bel WA S0 W0 F0 VA W1 F1 M1
   have Bel:=Beln
   have WA:=WAn
   have S0:=S0n
   have W0:=W0n
   have F0:=F0n
   have VA:=VAn
   have W1:=W1n
   have F1:=F1n
   have M1:=M1n
   clear Beln WAn S0n W0n F0n VAn W1n F1n M1n
   have nw12:=k.size
   clear k
   have ja:=WA.o.all
   go_wp2_with fail
   clear ja
   refine (CU _ d a b e q ca cb ce cq (HX.o.below Bel.o).1 (HY.o.below Bel.o).1 (HZ.o.below Bel.o).1 (HQ.o.below Bel.o).1 bx by_ bz HLL.o bm).mono ?_
   rintro e9 w13 ⟨h1,h2,h3,h4,rfl,hs9,k⟩
   have Beln:=hide (bi Bel.o k (by omega))
   have WAn:=hide (WA.o.kept k (by omega))
   have S0n:=hide (S0.o.kept k (by omega))
   have W0n:=hide (W0.o.kept k (by omega))
   have F0n:=hide (F0.o.kept k (by omega))
   have VAn:=hide (VA.o.kept k (by omega))
   have W1n:=hide (W1.o.kept k (by omega))
   have F1n:=hide (F1.o.kept k (by omega))
   have M1n:=hide (M1.o.kept k (by omega))
   clear Bel WA S0 W0 F0 VA W1 F1 M1
   have Bel:=Beln
   have WA:=WAn
   have S0:=S0n
   have W0:=W0n
   have F0:=F0n
   have VA:=VAn
   have W1:=W1n
   have F1:=F1n
   have M1:=M1n
   clear Beln WAn S0n W0n F0n VAn W1n F1n M1n
   have nw13:=k.size
   have O5:=hide hs9
   clear k hs9
   go_wp2_with fail
   refine (ug _ d _ _ _ _ _ _ _ _ ⟨O5.o.d.row,HX.o.2⟩ ⟨O5.o.a'.row,HY.o.2⟩ ⟨O5.o.b'.row,HZ.o.2⟩ ⟨O5.o.l.row,HQ.o.2⟩ bx by_ bz HLL.o bm HWF.o (HS.o.below Bel.o) (HT.o.below Bel.o)).mono ?_
   rw [HDD.o,HFF.o,HKK.o]
   unfold pY ftC
   rintro e9 w14 ⟨a2,b2,e2,q2,ca2,cb2,ce2,cq2,rfl,hin,k⟩
   have hsl:=hin.sl
   have Beln:=hide (bi Bel.o k (by omega))
   have WAn:=hide (WA.o.kept k (by omega))
   have S0n:=hide (S0.o.kept k (by omega))
   have W0n:=hide (W0.o.kept k (by omega))
   have F0n:=hide (F0.o.kept k (by omega))
   have VAn:=hide (VA.o.kept k (by omega))
   have W1n:=hide (W1.o.kept k (by omega))
   have F1n:=hide (F1.o.kept k (by omega))
   have M1n:=hide (M1.o.kept k (by omega))
   have O5n:=hide (O5.o.kept k (by omega))
   clear Bel WA S0 W0 F0 VA W1 F1 M1 O5
   have Bel:=Beln
   have WA:=WAn
   have S0:=S0n
   have W0:=W0n
   have F0:=F0n
   have VA:=VAn
   have W1:=W1n
   have F1:=F1n
   have M1:=M1n
   have O5:=O5n
   clear Beln WAn S0n W0n F0n VAn W1n F1n M1n O5n
   have nw14:=k.size
   have S2:=hide hsl
   clear k hin hsl
   clear O5
   have ka:Kept 0 0 w14 ((w14.alloc (.cells (cpA D a2 b2 e2 q2 ca2 cb2 ce2 cq2) 36)).alloc (.cells (ftA F) 49)):=ah (kept_alloc w14 _) _
   have Beln:=hide (bi Bel.o ka (by omega))
   have WAn:=hide (WA.o.kept ka (by omega))
   have S0n:=hide (S0.o.kept ka (by omega))
   have W0n:=hide (W0.o.kept ka (by omega))
   have F0n:=hide (F0.o.kept ka (by omega))
   have VAn:=hide (VA.o.kept ka (by omega))
   have W1n:=hide (W1.o.kept ka (by omega))
   have F1n:=hide (F1.o.kept ka (by omega))
   have M1n:=hide (M1.o.kept ka (by omega))
   have S2n:=hide (S2.o.kept ka (by omega))
   clear Bel WA S0 W0 F0 VA W1 F1 M1 S2
   have Bel:=Beln
   have WA:=WAn
   have S0:=S0n
   have W0:=W0n
   have F0:=F0n
   have VA:=VAn
   have W1:=W1n
   have F1:=F1n
   have M1:=M1n
   have S2:=S2n
   clear Beln WAn S0n W0n F0n VAn W1n F1n M1n S2n
   have B0:=((Blk.new w14 (cpA D a2 b2 e2 q2 ca2 cb2 ce2 cq2) 36).alloc (.cells (ftA F) 49))
   have B1:=(Blk.new (w14.alloc (.cells (cpA D a2 b2 e2 q2 ca2 cb2 ce2 cq2) 36)) (ftA F) 49)
   simp only [World.size_alloc] at B1
   obtain ⟨X14,hX14⟩:∃X:World,((w14.alloc (.cells (cpA D a2 b2 e2 q2 ca2 cb2 ce2 cq2) 36)).alloc (.cells (ftA F) 49))=X:=⟨_,rfl⟩
   have nX14:X14.heap.size=w14.heap.size+2:=by simp [←hX14]
   rw [hX14] at Bel WA S0 W0 F0 VA W1 F1 M1 S2 B0 B1
   have W2:=hide B0
   have F2:=hide B1
   clear ka B0 B1
   have ja:=W2.o.all
   have sK:=W0.o.all
   go_wp2_with fail
   clear ja sK hX14
   refine (DT _ D a2 b2 e2 q2 a0 b0 e0 q0 _ _ _ _ _ _ _ _ S2.o.d.row S2.o.a'.row S2.o.b'.row S2.o.l.row S0.o.d.row S0.o.a'.row S0.o.b'.row S0.o.l.row (by omega) (by omega) (by omega) HDL.o (by omega)).mono ?_
   rintro e9 w15 ⟨rfl,k⟩
   have Beln:=hide (bi Bel.o k (by omega))
   have WAn:=hide (WA.o.kept k (by omega))
   have S0n:=hide (S0.o.kept k (by omega))
   have W0n:=hide (W0.o.kept k (by omega))
   have F0n:=hide (F0.o.kept k (by omega))
   have VAn:=hide (VA.o.kept k (by omega))
   have W1n:=hide (W1.o.kept k (by omega))
   have F1n:=hide (F1.o.kept k (by omega))
   have M1n:=hide (M1.o.kept k (by omega))
   have S2n:=hide (S2.o.kept k (by omega))
   have W2n:=hide (W2.o.kept k (by omega))
   have F2n:=hide (F2.o.kept k (by omega))
   clear Bel WA S0 W0 F0 VA W1 F1 M1 S2 W2 F2
   have Bel:=Beln
   have WA:=WAn
   have S0:=S0n
   have W0:=W0n
   have F0:=F0n
   have VA:=VAn
   have W1:=W1n
   have F1:=F1n
   have M1:=M1n
   have S2:=S2n
   have W2:=W2n
   have F2:=F2n
   clear Beln WAn S0n W0n F0n VAn W1n F1n M1n S2n W2n F2n
   have nw15:=k.size
   clear k
   have ja:=F2.o.all
   have sK:=F0.o.all
   go_wp2_with fail
   clear ja sK
   refine (yx _ F).mono ?_
   rintro e9 w15f ⟨rfl,k⟩
   have Beln:=hide (bi Bel.o k (by omega))
   have WAn:=hide (WA.o.kept k (by omega))
   have S0n:=hide (S0.o.kept k (by omega))
   have W0n:=hide (W0.o.kept k (by omega))
   have F0n:=hide (F0.o.kept k (by omega))
   have VAn:=hide (VA.o.kept k (by omega))
   have W1n:=hide (W1.o.kept k (by omega))
   have F1n:=hide (F1.o.kept k (by omega))
   have M1n:=hide (M1.o.kept k (by omega))
   have S2n:=hide (S2.o.kept k (by omega))
   have W2n:=hide (W2.o.kept k (by omega))
   have F2n:=hide (F2.o.kept k (by omega))
   clear Bel WA S0 W0 F0 VA W1 F1 M1 S2 W2 F2
   have Bel:=Beln
   have WA:=WAn
   have S0:=S0n
   have W0:=W0n
   have F0:=F0n
   have VA:=VAn
   have W1:=W1n
   have F1:=F1n
   have M1:=M1n
   have S2:=S2n
   have W2:=W2n
   have F2:=F2n
   clear Beln WAn S0n W0n F0n VAn W1n F1n M1n S2n W2n F2n
   have nw15f:=k.size
   clear k
   have ja:=W1.o.all
   go_wp2_with fail
   clear ja
   refine (DJ _ D a1 b1 e1 q1 _ _ _ _ M1.o.d.row M1.o.a'.row M1.o.b'.row M1.o.l.row (by omega) (by omega) (by omega) (by omega)).mono ?_
   rintro e9 w16 ⟨rfl,k⟩
   have Beln:=hide (bi Bel.o k (by omega))
   have WAn:=hide (WA.o.kept k (by omega))
   have S0n:=hide (S0.o.kept k (by omega))
   have W0n:=hide (W0.o.kept k (by omega))
   have F0n:=hide (F0.o.kept k (by omega))
   have VAn:=hide (VA.o.kept k (by omega))
   have W1n:=hide (W1.o.kept k (by omega))
   have F1n:=hide (F1.o.kept k (by omega))
   have M1n:=hide (M1.o.kept k (by omega))
   have S2n:=hide (S2.o.kept k (by omega))
   have W2n:=hide (W2.o.kept k (by omega))
   have F2n:=hide (F2.o.kept k (by omega))
   clear Bel WA S0 W0 F0 VA W1 F1 M1 S2 W2 F2
   have Bel:=Beln
   have WA:=WAn
   have S0:=S0n
   have W0:=W0n
   have F0:=F0n
   have VA:=VAn
   have W1:=W1n
   have F1:=F1n
   have M1:=M1n
   have S2:=S2n
   have W2:=W2n
   have F2:=F2n
   clear Beln WAn S0n W0n F0n VAn W1n F1n M1n S2n W2n F2n
   have nw16:=k.size
   clear k
   go_wp2_with fail
   go_ret
   exact ⟨rfl,Bel.o⟩
theorem QF:prog.globalNamed "loop.example/g00389/impl.digitSums" = some 0:=by kernel_rfl
theorem JQ:prog.globalNamed "loop.example/g00389/impl.ninesLess" = some 1:=by kernel_rfl
theorem UV:(prog.globals[0]?).map (·.type)=some 239:=by kernel_rfl
theorem Q9:(prog.globals[1]?).map (·.type)=some 240:=by kernel_rfl
theorem V6:prog.cellsOf 3=1:=by kernel_rfl
theorem V3:prog.cellsOf 239=20:=by kernel_rfl
theorem TG:prog.cellsOf 240=10:=by kernel_rfl
def G6:List Int:=[0,1,2,3,4,5,6,7,8,9,16,17,18,19,20,21,22,23,24,25]
def Ba:List Int:=[9,8,7,6,5,4,3,2,1,0]
theorem G5:∀i:Nat,i<20→G6.getD i 0=(i:Int)/10*16+(i:Int)%10:=by decide
theorem EG:∀i:Nat,i<10→Ba.getD i 0=9-(i:Int):=by decide
theorem Nb {W:World} {rest:List (String × DataW Unit)} (h:laidMet prog (("loop.example/g00389/impl.digitSums",Rows.laid_loop_example_g00389_impl_digitSums) :: rest) W):oI W:=by
 have hT:Lib.TabIs prog W "loop.example/g00389/impl.digitSums" .i64 G6:=Lib.tabIs_of_head (rest:=rest) QF UV underlying239 underlying3 V6 V3 h
 intro i hi
 rw [hT.cell QF i (by simpa [G6] using hi),G5 i hi]
theorem Nc {W:World} {rest:List (String × DataW Unit)} (h:laidMet prog (("loop.example/g00389/impl.ninesLess",Rows.laid_loop_example_g00389_impl_ninesLess) :: rest) W):rV W:=by
 have hT:Lib.TabIs prog W "loop.example/g00389/impl.ninesLess" .i64 Ba:=Lib.tabIs_of_head (rest:=rest) JQ Q9 underlying240 underlying3 V6 TG h
 intro i hi
 rw [hT.cell JQ i (by simpa [Ba] using hi),EG i hi]
theorem Na {W:World} (h:laidMetH prog [("loop.example/g00389/impl.digitSums",Rows.laid_loop_example_g00389_impl_digitSums),("loop.example/g00389/impl.ninesLess",Rows.laid_loop_example_g00389_impl_ninesLess)] W):oI W∧rV W:=by
 rw [MakeChecks.laidMetH_plain _ _ _ (by kernel_rfl)] at h
 exact ⟨Nb h,Nc h.tail⟩
open Go.RowKit Go.WideShapes Go.ChangeShapes Go.ChangeAt
set_option linter.unusedSimpArgs false
theorem Tryz.vV:prog.cellsOf 3=1:=by kernel_rfl
theorem Tryz.Lm:prog.cellsOf 126=5:=by kernel_rfl
theorem Tryz.Ll:prog.cellsOf 27=2:=by kernel_rfl
theorem Tryz.xh:prog.cellsOf 4=1:=by kernel_rfl
theorem Tryz.xg:prog.cellsOf 22=1:=by kernel_rfl
theorem Tryz.Gh:prog.cellsOf 25=1:=by kernel_rfl
theorem Tryz.Gg:prog.cellsOf 24=8:=by kernel_rfl
theorem Tryz.Lj:prog.cellsOf 29=12:=by kernel_rfl
theorem Addr.Ad (a:Addr) (i j:Nat):(a.add i).add j=a.add (i+j):=by
 unfold Addr.add
 by_cases hi:i=0<;>by_cases hj:j=0<;>simp [hi,hj,Nat.add_assoc]
theorem DY {w:World} {x:Addr} {n:Nat} (h:∀i,i<n→∃z:Int,w.cell? (x.add i)=some (iv z)∧(Lit.int .i64 z).wf=true):∃xs:List Int,xs.length=n∧Came w (some x) xs:=by
 obtain ⟨f,hf⟩:=Go.Deep.choose_lt h
 refine ⟨(List.range n).map f,by simp,?_,?_⟩
 ·intro i hi
  have hi':i<n:=by simpa using hi
  obtain ⟨g,off,spot⟩:=x
  have hspot:spot=none:=by simpa [Addr.add] using World.cell?_spot (hf 0 (by omega)).1
  subst hspot
  refine ⟨g,off,rfl,?_⟩
  have hc:=(hf i hi').1
  by_cases h0:i=0
  ·subst h0;simpa [Addr.add,hi'] using hc
  ·simpa [Addr.add,h0,hi'] using hc
 ·intro i hi
  have hi':i<n:=by simpa using hi
  have:=bounds_i64 (hf i hi').2
  simpa [hi'] using this
section
variable {H:Type} {enc:TypeId × Value→H} {w:World} {base:Nat} {spare:Nat→Bool} {held:Bool}
theorem pO {fuel:Nat} {v:Value} {y:DataW H × List MemPlace} (h:DataW.trod enc prog w base spare held fuel 22 [v]=some y) :
  ∃(a:Option Addr) (cap:Nat) (xs:List Int),v=.slice a xs.length cap∧Came w a xs∧xs.length≤maxLen:=by
 rcases open_ints underlying22 underlying3 Tryz.vV h with ⟨hc,_⟩|⟨x,len,cap,zs,hc,_,hl,hm,hz,_,hcell,hwz⟩
 ·simp at hc
  exact ⟨none,0,[],hc,⟨fun i hi=>absurd hi (Nat.not_lt_zero i),fun i hi=>absurd hi (Nat.not_lt_zero i)⟩,Nat.zero_le _⟩
 ·simp at hc
  have hlen:len≤zs.length:=by rw [hz];split<;>omega
  obtain ⟨xs,rfl,hx⟩:=DY (w:=w) (x:=x) (n:=len) (fun i hi=>⟨zs.getD i 0,hcell i (by omega),hwz _ (by
   have:i<zs.length:=by omega
   simp [List.getD,this])⟩)
  exact ⟨some x,cap,xs,hc,hx,by omega⟩
theorem zk {fuel:Nat} {v:Value} {y:DataW H × List MemPlace} (h:DataW.trod enc prog w base spare held fuel 25 [v]=some y) :
  ∃(a:Option Addr) (m cap:Nat) (ys:List Int),v=.slice a m cap∧Came w a ys∧ys.length=5*m∧m≤maxLen:=by
 rcases Go.Deep.open_slice underlying25 h with ⟨hc,_⟩|⟨x,len,cap,m,n,D,Pl,hc,_,hl,hm,hmm,_,hel⟩
 ·simp at hc
  exact ⟨none,0,0,[],hc,⟨fun i hi=>absurd hi (Nat.not_lt_zero i),fun i hi=>absurd hi (Nat.not_lt_zero i)⟩,rfl,Nat.zero_le _⟩
 ·simp at hc
  have hlen:len≤m:=by rw [hmm];split<;>omega
  obtain ⟨ys,hy,hx⟩:=DY (w:=w) (x:=x) (n:=5*len) (by
   intro i hi
   obtain ⟨cs',h1,h2⟩:=hel (i/5) (by omega)
   rw [Tryz.Lm] at h1
   obtain ⟨_,hl5,hcs⟩:=World.cells?_some h1
   obtain ⟨zs,k,_,_,_,hzl,hf⟩:=DataW.trod_struct underlying126 h2
   have hget:=hcs (i%5) (by omega)
   rw [Addr.Ad,show i/5*5+i%5=i from by omega] at hget
   rw [hget]
   obtain ⟨c0,c1,c2,c3,c4,rfl⟩:∃c0 c1 c2 c3 c4,cs'=[c0,c1,c2,c3,c4]:=by
    match cs',hl5 with
    | [c0,c1,c2,c3,c4],_=>exact ⟨c0,c1,c2,c3,c4,rfl⟩
   obtain ⟨z0,z1,z2,z3,z4,rfl⟩:∃z0 z1 z2 z3 z4,zs=[z0,z1,z2,z3,z4]:=by
    match zs,hzl with
    | [z0,z1,z2,z3,z4],_=>exact ⟨z0,z1,z2,z3,z4,rfl⟩
   have t0:=hf 0 _ rfl
   have t1:=hf 1 _ rfl
   have t2:=hf 2 _ rfl
   have t3:=hf 3 _ rfl
   have t4:=hf 4 _ rfl
   simp [Tryz.vV] at t0 t1 t2 t3 t4
   obtain ⟨n0,e0,_,b0⟩:=DataW.trod_int underlying3 t0
   obtain ⟨n1,e1,_,b1⟩:=DataW.trod_int underlying3 t1
   obtain ⟨n2,e2,_,b2⟩:=DataW.trod_int underlying3 t2
   obtain ⟨n3,e3,_,b3⟩:=DataW.trod_int underlying3 t3
   obtain ⟨n4,e4,_,b4⟩:=DataW.trod_int underlying3 t4
   simp at e0 e1 e2 e3 e4
   subst e0 e1 e2 e3 e4
   obtain h|h|h|h|h:i%5=0∨i%5=1∨i%5=2∨i%5=3∨i%5=4:=by omega
   all_goals rw [h]
   ·exact ⟨n0,rfl,b0⟩
   ·exact ⟨n1,rfl,b1⟩
   ·exact ⟨n2,rfl,b2⟩
   ·exact ⟨n3,rfl,b3⟩
   ·exact ⟨n4,rfl,b4⟩)
  exact ⟨some x,len,cap,ys,hc,hx,hy,by omega⟩
theorem Iy {r:Reach} {b0:Nat} {v:Value} {d:DataW H} {p:List MemPlace} (hv:Value.okWide prog w r b0 29 v) (h:DataW.Trod enc prog w base spare held 29 v d p) :
  ∃(a0:Option Addr) (c0:Nat) (x0:List Int) (a1:Option Addr) (c1:Nat) (x1:List Int) (i2 i3 i4 i5:Int) (i6 i7:Bool) (a8:Option Addr) (c8:Nat) (x8:List Int) (a9:Option Addr) (m9 c9:Nat) (x9:List Int) (i10 i11:Bool),v=.agg #[.slice a0 x0.length c0,.slice a1 x1.length c1,iv i2,iv i3,iv i4,iv i5,.bool i6,.bool i7,.slice a8 x8.length c8,.slice a9 m9 c9,.bool i10,.bool i11]∧(Came w a0 x0∧x0.length≤maxLen)∧(Came w a1 x1∧x1.length≤maxLen)∧(Lit.int .i64 i2).wf=true∧(Lit.int .i64 i3).wf=true∧(Lit.int .i64 i4).wf=true∧(Lit.int .i64 i5).wf=true∧(Came w a8 x8∧x8.length≤maxLen)∧(Came w a9 x9∧x9.length=5*m9∧m9≤maxLen):=by
 obtain ⟨cs,rfl,hsz⟩:=okWide_struct underlying29 hv
 rw [Tryz.Lj] at hsz
 obtain ⟨cl⟩:=cs
 obtain ⟨c_0,c_1,c_2,c_3,c_4,c_5,c_6,c_7,c_8,c_9,Pm,Pj,rfl⟩:∃c_0 c_1 c_2 c_3 c_4 c_5 c_6 c_7 c_8 c_9 Pm Pj,cl=[c_0,c_1,c_2,c_3,c_4,c_5,c_6,c_7,c_8,c_9,Pm,Pj]:=by
  match cl,hsz with
  | [c_0,c_1,c_2,c_3,c_4,c_5,c_6,c_7,c_8,c_9,Pm,Pj],_=>exact ⟨c_0,c_1,c_2,c_3,c_4,c_5,c_6,c_7,c_8,c_9,Pm,Pj,rfl⟩
 obtain ⟨fuel,hf0⟩:=h
 obtain ⟨zs,k,_,_,_,hzl,hf⟩:=DataW.trod_struct underlying29 hf0
 obtain ⟨y_0,y_1,y_2,y_3,rfl⟩:∃y_0 y_1 y_2 y_3,zs=[y_0,y_1,y_2,y_3]:=by
  match zs,hzl with
  | [y_0,y_1,y_2,y_3],_=>exact ⟨y_0,y_1,y_2,y_3,rfl⟩
 have s0:=hf 0 _ rfl
 have s1:=hf 1 _ rfl
 have s2:=hf 2 _ rfl
 have s3:=hf 3 _ rfl
 simp [Value.cells,Tryz.Gg,Tryz.Ll,Tryz.xh] at s0 s1 s2 s3
 obtain ⟨zs,k2,_,_,_,hzl,hr⟩:=DataW.trod_struct underlying24 s0
 obtain ⟨z_0,z_1,z_2,z_3,z_4,z_5,z_6,z_7,rfl⟩:∃z_0 z_1 z_2 z_3 z_4 z_5 z_6 z_7,zs=[z_0,z_1,z_2,z_3,z_4,z_5,z_6,z_7]:=by
  match zs,hzl with
  | [z_0,z_1,z_2,z_3,z_4,z_5,z_6,z_7],_=>exact ⟨z_0,z_1,z_2,z_3,z_4,z_5,z_6,z_7,rfl⟩
 have t0:=hr 0 _ rfl
 have t1:=hr 1 _ rfl
 have t2:=hr 2 _ rfl
 have t3:=hr 3 _ rfl
 have t4:=hr 4 _ rfl
 have t5:=hr 5 _ rfl
 have t6:=hr 6 _ rfl
 have t7:=hr 7 _ rfl
 simp [Value.cells,Tryz.vV,Tryz.xh,Tryz.xg] at t0 t1 t2 t3 t4 t5 t6 t7
 obtain ⟨zs,k3,_,_,_,hzl,hb⟩:=DataW.trod_struct underlying27 s1
 obtain ⟨x_0,x_1,rfl⟩:∃x_0 x_1,zs=[x_0,x_1]:=by
  match zs,hzl with
  | [x_0,x_1],_=>exact ⟨x_0,x_1,rfl⟩
 have t8:=hb 0 _ rfl
 have t9:=hb 1 _ rfl
 simp [Value.cells,Tryz.xg,Tryz.Gh] at t8 t9
 obtain ⟨a0,c0,x0,q0,hx0,lx0⟩:=pO t0
 obtain ⟨a1,c1,x1,q1,hx1,lx1⟩:=pO t1
 obtain ⟨i2,q2,_,wf2⟩:=DataW.trod_int underlying3 t2
 obtain ⟨i3,q3,_,wf3⟩:=DataW.trod_int underlying3 t3
 obtain ⟨i4,q4,_,wf4⟩:=DataW.trod_int underlying3 t4
 obtain ⟨i5,q5,_,wf5⟩:=DataW.trod_int underlying3 t5
 obtain ⟨i6,q6,_⟩:=DataW.trod_bool underlying4 t6
 obtain ⟨i7,q7,_⟩:=DataW.trod_bool underlying4 t7
 obtain ⟨a8,c8,x8,q8,hx8,lx8⟩:=pO t8
 obtain ⟨a9,m9,c9,x9,q9,hx9,ly9,lm9⟩:=zk t9
 obtain ⟨i10,q10,_⟩:=DataW.trod_bool underlying4 s2
 obtain ⟨i11,q11,_⟩:=DataW.trod_bool underlying4 s3
 simp at q0 q1 q2 q3 q4 q5 q6 q7 q8 q9 q10 q11
 subst q0 q1 q2 q3 q4 q5 q6 q7 q8 q9 q10 q11
 exact ⟨a0,c0,x0,a1,c1,x1,i2,i3,i4,i5,i6,i7,a8,c8,x8,a9,m9,c9,x9,i10,i11,rfl,⟨hx0,lx0⟩,⟨hx1,lx1⟩,wf2,wf3,wf4,wf5,⟨hx8,lx8⟩,⟨hx9,ly9,lm9⟩⟩
end
end Go.Proofs.YtkkmnnhaailkcaaGreatDoor
