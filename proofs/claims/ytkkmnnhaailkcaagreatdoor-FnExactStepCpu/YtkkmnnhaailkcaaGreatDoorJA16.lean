/- Part 16 of what the last text leans on. -/
import Derived.Test.YtkkmnnhaailkcaaGreatDoorJA15
import Derived.Test.YtkkmnnhaailkcaaGreatDoorJA2
import Derived.Test.YtkkmnnhaailkcaaGreatDoorJA5
import Derived.Test.YtkkmnnhaailkcaaGreatDoorJA1
import Derived.Deep.AppendLies
import Derived.Test.YtkkmnnhaailkcaaGreatDoorJA12
import Derived.Test.YtkkmnnhaailkcaaGreatDoorJA13
import Derived.Test.YtkkmnnhaailkcaaGreatDoorJA14
set_option maxRecDepth 100000
set_option maxHeartbeats 16000000
namespace Go.Proofs.YtkkmnnhaailkcaaGreatDoor
open Go.RowKit Go.Proofs.Tryz
set_option linter.unusedVariables false
theorem Bl (w:World) (lo mid hi p g2:Nat) (c:Pl.Mc) (x:Pl.In) (h:MAt w lo mid hi p g2 c) (G:Pl.GM c) (B:Pl.InB x) (hs:x.s=5) :
  Calls prog 112 #[.pointer (some ⟨p,0,none⟩),.agg (inX x)] w fun e w'=>e=.returned (.tuple #[])∧∃g3,MAt w' lo mid hi p g3 (c.iD x)∧Since w lo hi g2 w' g3:=by
 have HG:=hide G
 have HI:=hide B
 have HSU:=hide hs
 clear hs
 have hl:=h.lo
 obtain ⟨X,hX,KA,HX,hbw,HHB,HGB,HPH,HPB,HMH,HS,HM⟩:=h.dL x
 obtain ⟨b0,b1,b2,b3,b4,b5,b6⟩:=aF HX.o
 rw [HSU.o] at b6
 clear h
 obtain ⟨gd,cd,ga,ca,g1,c1,c2,HB,HO⟩:=HM.o.op
 have t0:=HB.o.k0
 clear G B
 have r0:=HI.o.r0
 have r1:=HI.o.r1
 have r4:x.r<4:=by omega
 have HR4:Hid (x.r.toNat<4):=hide (by omega)
 obtain ⟨D,hD⟩:∃D,el c.r.xs x.r.toNat=D:=⟨_,rfl⟩
 obtain ⟨hc1,_⟩:=jH HO.o.d x.r.toNat (by rw [HG.o.g.d4];exact HR4.o)
 have hDb:=HG.o.g.dw x.r.toNat HR4.o
 rw [hD] at hc1 hDb
 obtain ⟨V,hVV⟩:∃V,Pl.lT D=V:=⟨_,rfl⟩
 have E:Hid (c.iD x=c.data 2 x.r V):=hide (by unfold Pl.Mc.iD;rw [HSU.o,hD,hVV];rfl)
 have HVV:Hid (Pl.okv 2 V=true):=hide (by rw [←hVV];unfold Pl.lT;split<;>simp [Pl.okv,Pl.top]<;>omega)
 have HHV:=hide hVV
 clear hD hVV
 have KD:=hide (ae (Kept.refl 0 0 X))
 have HM_D:=hide (HM.o.any KD.o)
 have HX_D:=hide (HX.o.af KD.o)
 have HGB_D:=HGB
 have HS_D:=hide HS.o.drew
 go_enter func112,ntmps112
 go_wp2_with fail
 go_region_held3 (fun w'=>w'.cell? ⟨p,0,none⟩=some (.slice (some ⟨gd,0,none⟩) 4 cd)∧w'.cell? ⟨w.heap.size,2,none⟩=some (iv x.r)∧w'.cell? ⟨gd,x.r.toNat,none⟩=some (iv D)) (first|go_keep) (first|(go_at_call 151;refine st (wE _ _) ?_;rw [HHV.o]))
 go_wp2_with (go_at_call 152;refine (Du _ lo mid hi p g2 c 2 x.r V HM_D.o HG.o HI.o.r0 HI.o.r1 HVV.o).mono ?_;rintro e9 W_1 ⟨rfl,aT,hm9,hb9⟩;obtain ⟨bg,bY,bI⟩:=hb9.nx HX_D HHB HGB_D HS_D;clear hb9;have aW:=hide hm9;obtain ⟨bQ,bU,bT,bV,eu,eP,eG,aX,bu⟩:=hm9.op;clear b0 b1 b2 b3 b4 b5 b6;obtain ⟨b0,b1,b2,b3,b4,b5,b6⟩:=aF bg.o;rw [HSU.o] at b6)
 first|go_end0|refine bodyPost_ret (results_none rfl _ _ _) rfl ?_
 exact ⟨rfl,aT,by rw [E.o];exact aW.o,bI.o⟩
theorem Fg (w:World) (lo mid hi p g2:Nat) (c:Pl.Mc) (x:Pl.In) (h:MAt w lo mid hi p g2 c) (G:Pl.GM c) (B:Pl.InB x) (hs:x.s=6) :
  Calls prog 112 #[.pointer (some ⟨p,0,none⟩),.agg (inX x)] w fun e w'=>e=.returned (.tuple #[])∧∃g3,MAt w' lo mid hi p g3 (c.iD x)∧Since w lo hi g2 w' g3:=by
 have HG:=hide G
 have HI:=hide B
 have HSU:=hide hs
 clear hs
 have hl:=h.lo
 obtain ⟨X,hX,KA,HX,hbw,HHB,HGB,HPH,HPB,HMH,HS,HM⟩:=h.dL x
 obtain ⟨b0,b1,b2,b3,b4,b5,b6⟩:=aF HX.o
 rw [HSU.o] at b6
 clear h
 obtain ⟨gd,cd,ga,ca,g1,c1,c2,HB,HO⟩:=HM.o.op
 have t0:=HB.o.k0
 clear G B
 have r0:=HI.o.r0
 have r1:=HI.o.r1
 have r4:x.r<4:=by omega
 have HR4:Hid (x.r.toNat<4):=hide (by omega)
 obtain ⟨D,hD⟩:∃D,el c.r.xs x.r.toNat=D:=⟨_,rfl⟩
 obtain ⟨hc1,_⟩:=jH HO.o.d x.r.toNat (by rw [HG.o.g.d4];exact HR4.o)
 have hDb:=HG.o.g.dw x.r.toNat HR4.o
 rw [hD] at hc1 hDb
 have m1:=Pl.dK D
 obtain ⟨V,hVV⟩:∃V,Pl.mY (D%256)=V:=⟨_,rfl⟩
 have E:Hid (c.iD x=c.data 2 x.r V):=hide (by unfold Pl.Mc.iD;rw [HSU.o,hD,hVV];rfl)
 have HVV:Hid (Pl.okv 2 V=true):=hide (by rw [←hVV];unfold Pl.mY;split<;>simp [Pl.okv,Pl.top]<;>omega)
 have HHV:=hide hVV
 clear hD hVV
 have KD:=hide (ae (Kept.refl 0 0 X))
 have HM_D:=hide (HM.o.any KD.o)
 have HX_D:=hide (HX.o.af KD.o)
 have HGB_D:=HGB
 have HS_D:=hide HS.o.drew
 go_enter func112,ntmps112
 go_wp2_with fail
 go_region_held3 (fun w'=>w'.cell? ⟨p,0,none⟩=some (.slice (some ⟨gd,0,none⟩) 4 cd)∧w'.cell? ⟨w.heap.size,2,none⟩=some (iv x.r)∧w'.cell? ⟨gd,x.r.toNat,none⟩=some (iv D)) (first|go_keep) (first|(go_at_call 153;refine st (uP _ _) ?_;rw [HHV.o]))
 go_wp2_with (go_at_call 152;refine (Du _ lo mid hi p g2 c 2 x.r V HM_D.o HG.o HI.o.r0 HI.o.r1 HVV.o).mono ?_;rintro e9 W_1 ⟨rfl,aT,hm9,hb9⟩;obtain ⟨bg,bY,bI⟩:=hb9.nx HX_D HHB HGB_D HS_D;clear hb9;have aW:=hide hm9;obtain ⟨bQ,bU,bT,bV,eu,eP,eG,aX,bu⟩:=hm9.op;clear b0 b1 b2 b3 b4 b5 b6;obtain ⟨b0,b1,b2,b3,b4,b5,b6⟩:=aF bg.o;rw [HSU.o] at b6)
 first|go_end0|refine bodyPost_ret (results_none rfl _ _ _) rfl ?_
 exact ⟨rfl,aT,by rw [E.o];exact aW.o,bI.o⟩
theorem Bo (w:World) (lo mid hi p g2:Nat) (c:Pl.Mc) (x:Pl.In) (h:MAt w lo mid hi p g2 c) (G:Pl.GM c) (B:Pl.InB x) (hs:x.s=3) (e3:x.e≤1023) :
  Calls prog 112 #[.pointer (some ⟨p,0,none⟩),.agg (inX x)] w fun e w'=>e=.returned (.tuple #[])∧∃g3,MAt w' lo mid hi p g3 (c.iD x)∧Since w lo hi g2 w' g3:=by
 have HG:=hide G
 have HI:=hide B
 have HSU:=hide hs
 clear hs
 have hl:=h.lo
 obtain ⟨X,hX,KA,HX,hbw,HHB,HGB,HPH,HPB,HMH,HS,HM⟩:=h.dL x
 obtain ⟨b0,b1,b2,b3,b4,b5,b6⟩:=aF HX.o
 rw [HSU.o] at b6
 clear h
 obtain ⟨gd,cd,ga,ca,g1,c1,c2,HB,HO⟩:=HM.o.op
 obtain ⟨t0,t1,t2,t3,t4,t5,t6,t7⟩:=HB.o.c8
 clear G B
 have E:Hid (c.iD x={c.dh (Pl.bJ c.r x.e) with st:=true}):=hide (by unfold Pl.Mc.iD;rw [HSU.o];rfl)
 have HW:=fun w9 hr hh=>GG w9 lo mid gd cd ga ca c.r x.e hr hh HG.o.g HI.o.e0 e3
 obtain ⟨R,hR⟩:∃R,Pl.bJ c.r x.e=R:=⟨_,rfl⟩
 rw [hR] at E
 simp only [hR,iK] at HW
 clear hR
 have HOY:=hide (HO.o.any (ae (Kept.refl 0 0 X)))
 have HBY:=hide (HB.o.any (ae (Kept.refl 0 0 X)))
 have HSY:=hide HS.o.drew
 have HRY:=hide (MO.reg (r:=c.r) HOY.o)
 have HMY:Hid (mid≤X.drew.heap.size):=hide (Nat.le_trans HMH.o HOY.o.hh)
 have HPM:=HOY.o.p0
 go_enter func112,ntmps112
 go_wp2_with fail
 go_region_with (go_at_call 80;refine (HW _ HRY.o HMY.o).mono ?_;rintro e9 W_9 ⟨rfl,hr9,hk9⟩;have jU:=hide (HOY.o.regs hr9 hk9);have aG:=hide (HBY.o.regs hk9 HPM);have jT:=hide (HSY.o.ai hk9 (Nat.le_refl _) HMH.o);clear hr9 hk9 t0 t1 t2 t3 t4 t5 t6 t7;obtain ⟨u0,u1,u2,u3,u4,u5,u6,u7,u8,u9,u10,_⟩:=aG.o.cells;have q0:=aG.o.frozen 0;have q1:=aG.o.frozen 1;have q2:=aG.o.frozen 2;have q3:=aG.o.frozen 3;have q4:=aG.o.frozen 4;have q5:=aG.o.frozen 5;have q6:=aG.o.frozen 6;have q7:=aG.o.frozen 7;have q10:=aG.o.frozen 10)
 all_goals
  go_wp2_with fail
  first|go_end0|refine bodyPost_ret (results_none rfl _ _ _) rfl ?_
  exact ⟨rfl,g2,by rw [E.o];exact (MAt.laid aG.o jU.o).cSt true,(fG jT.o HPH.o _ _ _ _ _ _ _ _).set p 10 _ HPH.o⟩
theorem Vz (w:World) (lo mid hi p g2:Nat) (c:Pl.Mc) (x:Pl.In) (h:MAt w lo mid hi p g2 c) (G:Pl.GM c) (B:Pl.InB x) (hs:x.s≤6) (e3:x.s=3→x.e≤1023) :
  Calls prog 112 #[.pointer (some ⟨p,0,none⟩),.agg (inX x)] w fun e w'=>e=.returned (.tuple #[])∧∃g3,MAt w' lo mid hi p g3 (c.iD x)∧Since w lo hi g2 w' g3:=by
 have s0:=B.s0
 have hc:x.s=0∨x.s=1∨x.s=2∨x.s=3∨x.s=4∨x.s=5∨x.s=6:=by omega
 rcases hc with q|q|q|q|q|q|q
 ·exact Fb w lo mid hi p g2 c x h G B q
 ·cases hf:c.pop.fine
  ·exact Bv w lo mid hi p g2 c x h G B q hf
  ·cases hf2:c.pop.pop.fine
   ·exact Bq w lo mid hi p g2 c x h G B q hf hf2
   ·exact Fe w lo mid hi p g2 c x h G B q hf hf2
 ·exact Ff w lo mid hi p g2 c x h G B q
 ·exact Bo w lo mid hi p g2 c x h G B q (e3 q)
 ·exact Bj w lo mid hi p g2 c x h G B q
 ·exact Bl w lo mid hi p g2 c x h G B q
 ·exact Fg w lo mid hi p g2 c x h G B q
theorem G9 (c:Int) (j:Nat) (hj:j<32) (w:World) (hc:c=0∨c=2∨c=4∨c=6∨c=8∨c=10∨c=12∨c=14) :
  Calls prog 184 #[iv c,iv (j:Int)] w fun e w'=>e=.returned (.bool (Pl.ev c j))∧w'=w:=by
 have HC:=hide (Pl.Wp j hj)
 have HV:=hide (Pl.Wl j hj)
 have HZ:=hide (Pl.Wj j hj)
 have HN:=hide (Pl.Wn j hj)
 have HX:=hide (Pl.Ue j hj)
 rcases hc with rfl|rfl|rfl|rfl|rfl|rfl|rfl|rfl
 ·go_enter func184,ntmps184
  go_wp2
  go_ret
  exact ⟨rB rfl,rfl⟩
 ·go_enter func184,ntmps184
  go_wp2
  go_ret
  exact ⟨rB (by rw [HX.o];rfl),rfl⟩
 ·go_enter func184,ntmps184
  go_wp2
  go_ret
  exact ⟨rB (by rw [HC.o];rfl),rfl⟩
 ·go_enter func184,ntmps184
  go_wp2
  go_ret
  exact ⟨rB (by rw [HZ.o];rfl),rfl⟩
 ·go_enter func184,ntmps184
  go_wp2
  go_ret
  exact ⟨rB (by rw [HV.o];rfl),rfl⟩
 ·go_enter func184,ntmps184
  go_wp2
  go_ret
  exact ⟨rB (by rw [HN.o];rfl),rfl⟩
 ·go_enter func184,ntmps184
  go_wp2
  go_ret
  exact ⟨rB (by simp only [bne,HN.o,HV.o];simp [Pl.ev]),rfl⟩
 ·cases hl:((bits .and .i64 (j:Int) 8 != 0)==(bits .and .i64 (j:Int) 2 != 0))
  ·go_enter func184,ntmps184
   go_wp2
   go_ret
   exact ⟨rB (by simp only [bne,HN.o,HV.o] at hl;simp [Pl.ev];simp at hl;simp [hl]),rfl⟩
  ·go_enter func184,ntmps184
   go_wp2
   go_ret
   exact ⟨rB (by simp only [bne,HN.o,HV.o] at hl;rw [HZ.o];simp [Pl.ev];simp at hl;simp [hl]),rfl⟩
theorem Np (k j:Nat) (hk:k<16) (hj:j<32) (w:World) :
  Calls prog 148 #[iv (k:Int),iv (j:Int)] w fun e w'=>e=.returned (.bool (Pl.tst k j))∧w'=w:=by
 have hE:=Pl.LJ k hk
 have hO:=Pl.and1 (k:Int)
 go_enter func148,ntmps148
 go_wp2_with (go_at_call 184;refine (G9 _ j hj _ (by omega)).mono ?_;rintro e w' ⟨rfl,hw⟩;have hw2:=hw.symm;clear hw;subst hw2)
 go_ret
 exact ⟨rB (by unfold Pl.tst;rfl),rfl⟩
theorem Dv {k f:Int} (w:World) (k0:0≤k) (k1:k≤15) (f0:0≤f) (f1:f≤31):Calls prog 148 #[iv k,iv f] w fun e w'=>e=.returned (.bool (Pl.tst k f))∧w'=w:=by
 obtain ⟨n,hn,rfl⟩:=Pl.lW (n:=16) k0 (by omega)
 obtain ⟨j,hj,rfl⟩:=Pl.lW (n:=32) f0 (by omega)
 exact Np n j hn hj w
theorem Pl.GM.push {c:Pl.Mc} (h:Pl.GM c) {v:Int} (v0:0≤v) (v1:v≤65535):Pl.GM (c.push v):=by
 have q:=h.acc (Pl.wu (c:=c) v0 v1)
 unfold Pl.Mc.push
 cases (c.acc 2 2 c.spA v).fine
 ·exact q
 ·exact q.fM 3 (by unfold Pl.Mc.spA;omega) (by unfold Pl.Mc.spA;omega)
theorem E8 (w:World) (lo mid hi p g2:Nat) (c:Pl.Mc) (x:Pl.In) (t:Int) (h:MAt w lo mid hi p g2 c) (G:Pl.GM c) (B:Pl.InB x) (ho:x.op=13) (r2:x.r≤1) (t0:0≤t) (t1:t≤65535) (hb:Pl.tst (x.s+8*x.r) c.r.f=true) :
  Calls prog 111 #[.pointer (some ⟨p,0,none⟩),.agg (inX x),iv t] w fun e w'=>e=.returned (.tuple #[])∧∃g3,MAt w' lo mid hi p g3 (c.jump x t)∧Since w lo hi g2 w' g3:=by
 have HG:=hide G
 have HI:=hide B
 have HOP:=hide ho
 clear ho
 have hl:=h.lo
 obtain ⟨X,hX,KA,HX,hbw,HHB,HGB,HPH,HPB,HMH,HS,HM⟩:=h.dL x
 obtain ⟨b0,b1,b2,b3,b4,b5,b6⟩:=aF HX.o
 rw [HOP.o] at b0
 clear h
 obtain ⟨gd,cd,ga,ca,g1,c1,c2,HB,HO⟩:=HM.o.op
 have t3:=HB.o.k3
 have t4:=HB.o.k4
 have f3:=HB.o.frozen 3
 clear G B
 have E:Hid (c.jump x t=c.aJ ((t+2+x.e)%65536)):=hide (by unfold Pl.Mc.jump;rw [HOP.o,hb];rfl)
 have s0:=HI.o.s0
 have s1:=HI.o.s1
 have r0:=HI.o.r0
 have e0:=HI.o.e0
 have e1:=HI.o.e1
 have hm:=lX (t+2+x.e)
 have HL:=fun w9=>Dv (k:=x.s+8*x.r) (f:=c.r.f) w9 (by omega) (by omega) HG.o.g.f0 HG.o.g.f1
 rw [hb] at HL
 have hw1:IntKind.i64.wrap (8*x.r)=8*x.r:=by rw [IntKind.wrap_i64];omega
 have hw2:IntKind.i64.wrap (x.s+8*x.r)=x.s+8*x.r:=by rw [IntKind.wrap_i64];omega
 have HL2:∀w9:World,Calls prog 148 #[iv (IntKind.i64.wrap (x.s+IntKind.i64.wrap (8*x.r))),iv c.r.f] w9 fun e w'=>e=.returned (.bool true)∧w'=w9:=by
  intro w9;rw [hw1,hw2];exact HL w9
 have HLL:=hide HL2
 clear hw1 hw2 HL HL2
 have KD:=hide (ae (Kept.refl 0 0 X))
 have HM_D:=hide (HM.o.any KD.o)
 have HS_D:=hide HS.o.drew
 go_enter func111,ntmps111
 go_wp2_with fail
 go_region_held3 (fun w'=>w'.cell? ⟨p,4,none⟩=some (iv c.r.f)∧w'.cell? ⟨w.heap.size,6,none⟩=some (iv x.s)∧w'.cell? ⟨w.heap.size,2,none⟩=some (iv x.r)) (first|go_keep) (first|(go_at_call 148;refine st (HLL.o _) ?_))
 go_wp2_with fail
 first|go_end0|refine bodyPost_ret (results_none rfl _ _ _) rfl ?_
 exact ⟨rfl,g2,by rw [E.o];exact (HM.o.cP _).drew,(HS.o.set p 3 _ HPH.o).drew⟩
theorem Fa (w:World) (lo mid hi p g2:Nat) (c:Pl.Mc) (x:Pl.In) (t:Int) (h:MAt w lo mid hi p g2 c) (G:Pl.GM c) (B:Pl.InB x) (ho:x.op=13) (r2:x.r≤1) (t0:0≤t) (t1:t≤65535) (hb:Pl.tst (x.s+8*x.r) c.r.f=false) :
  Calls prog 111 #[.pointer (some ⟨p,0,none⟩),.agg (inX x),iv t] w fun e w'=>e=.returned (.tuple #[])∧∃g3,MAt w' lo mid hi p g3 (c.jump x t)∧Since w lo hi g2 w' g3:=by
 have HG:=hide G
 have HI:=hide B
 have HOP:=hide ho
 clear ho
 have hl:=h.lo
 obtain ⟨X,hX,KA,HX,hbw,HHB,HGB,HPH,HPB,HMH,HS,HM⟩:=h.dL x
 obtain ⟨b0,b1,b2,b3,b4,b5,b6⟩:=aF HX.o
 rw [HOP.o] at b0
 clear h
 obtain ⟨gd,cd,ga,ca,g1,c1,c2,HB,HO⟩:=HM.o.op
 have t3:=HB.o.k3
 have t4:=HB.o.k4
 have f3:=HB.o.frozen 3
 clear G B
 have E:Hid (c.jump x t=c):=hide (by unfold Pl.Mc.jump;rw [HOP.o,hb];rfl)
 have s0:=HI.o.s0
 have s1:=HI.o.s1
 have r0:=HI.o.r0
 have e0:=HI.o.e0
 have e1:=HI.o.e1
 have hm:=lX (t+2+x.e)
 have HL:=fun w9=>Dv (k:=x.s+8*x.r) (f:=c.r.f) w9 (by omega) (by omega) HG.o.g.f0 HG.o.g.f1
 rw [hb] at HL
 have hw1:IntKind.i64.wrap (8*x.r)=8*x.r:=by rw [IntKind.wrap_i64];omega
 have hw2:IntKind.i64.wrap (x.s+8*x.r)=x.s+8*x.r:=by rw [IntKind.wrap_i64];omega
 have HL2:∀w9:World,Calls prog 148 #[iv (IntKind.i64.wrap (x.s+IntKind.i64.wrap (8*x.r))),iv c.r.f] w9 fun e w'=>e=.returned (.bool false)∧w'=w9:=by
  intro w9;rw [hw1,hw2];exact HL w9
 have HLL:=hide HL2
 clear hw1 hw2 HL HL2
 have KD:=hide (ae (Kept.refl 0 0 X))
 have HM_D:=hide (HM.o.any KD.o)
 have HS_D:=hide HS.o.drew
 go_enter func111,ntmps111
 go_wp2_with fail
 go_region_held3 (fun w'=>w'.cell? ⟨p,4,none⟩=some (iv c.r.f)∧w'.cell? ⟨w.heap.size,6,none⟩=some (iv x.s)∧w'.cell? ⟨w.heap.size,2,none⟩=some (iv x.r)) (first|go_keep) (first|(go_at_call 148;refine st (HLL.o _) ?_))
 go_wp2_with fail
 first|go_end0|refine bodyPost_ret (results_none rfl _ _ _) rfl ?_
 exact ⟨rfl,g2,by rw [E.o];exact HM_D.o,HS_D.o⟩
theorem Je (w:World) (lo mid hi p g2:Nat) (c:Pl.Mc) (x:Pl.In) (t:Int) (h:MAt w lo mid hi p g2 c) (G:Pl.GM c) (B:Pl.InB x) (ho:x.op=14) (hm:x.m=0∨x.m=2∨x.m=3∨x.m=4∨x.m=5∨x.m=6) (hfc:c.fine=true) (hs:(x.s==1)=false) :
  Calls prog 111 #[.pointer (some ⟨p,0,none⟩),.agg (inX x),iv t] w fun e w'=>e=.returned (.tuple #[])∧∃g3,MAt w' lo mid hi p g3 (c.jump x t)∧Since w lo hi g2 w' g3:=by
 have HG:=hide G
 have HI:=hide B
 have HOP:=hide ho
 clear ho
 have hl:=h.lo
 obtain ⟨X,hX,KA,HX,hbw,HHB,HGB,HPH,HPB,HMH,HS,HM⟩:=h.dL x
 obtain ⟨b0,b1,b2,b3,b4,b5,b6⟩:=aF HX.o
 rw [HOP.o] at b0
 clear h
 obtain ⟨gd,cd,ga,ca,g1,c1,c2,HB,HO⟩:=HM.o.op
 clear G B
 have HG1:=hide (HG.o.place (z:=2) (m:=x.m) (e:=x.e) HI.o.k0 HI.o.k1)
 have HFP:=Pl.xG c 2 x.m x.k x.e
 have hf:(c.place 2 x.m x.k x.e).fine=true:=by
  rw [←hfc];unfold Pl.Mc.place;cases x.m==0<;>rfl
 have HRD:=fun w9 h9=>sQ w9 lo mid hi p g2 c 2 x.m x.k x.e h9 HG.o HI.o.k0 HI.o.k1 HI.o.e0 HI.o.e1 hm
 have E:Hid (c.jump x t=(c.place 2 x.m x.k x.e).aJ (c.iL 2 x.m x.k x.e)):=hide (by unfold Pl.Mc.jump;rw [HOP.o,hs];rfl)
 obtain ⟨d,hd⟩:∃d,c.place 2 x.m x.k x.e=d:=⟨_,rfl⟩
 obtain ⟨a,hA⟩:∃a,c.iL 2 x.m x.k x.e=a:=⟨_,rfl⟩
 rw [hd] at hf HG1 HFP
 first|rw [hd,hA] at E|rw [hd] at E
 simp only [hd,hA] at HRD
 clear hd hA hfc hm
 go_enter func111,ntmps111
 go_wp2_with (first|(go_at_call 104;refine (HRD _ HM.o).mono ?_;rintro e9 W_1 ⟨rfl,aT,hm9,hb9⟩;obtain ⟨bg,bY,bI⟩:=hb9.nx HX HHB HGB HS;clear hb9;have aW:=hide hm9;obtain ⟨bQ,bU,bT,bV,eu,eP,eG,aX,bu⟩:=hm9.op;have kC:=aX.o.k3;have FY:=aX.o.frozen 3;clear b0 b1 b2 b3 b4 b5 b6;obtain ⟨b0,b1,b2,b3,b4,b5,b6⟩:=aF bg.o;rw [HOP.o] at b0)|(go_at_call 68;refine st (bK _ lo mid hi p aT _ aW.o) ?_;rw [hf]))
 first|go_end0|refine bodyPost_ret (results_none rfl _ _ _) rfl ?_
 exact ⟨rfl,aT,by rw [E.o];exact aW.o.cP _,bI.o.set p 3 _ HPH.o⟩
theorem Bh (w:World) (lo mid hi p g2:Nat) (c:Pl.Mc) (x:Pl.In) (t:Int) (h:MAt w lo mid hi p g2 c) (G:Pl.GM c) (B:Pl.InB x) (ho:x.op=14) (hm:x.m=0∨x.m=2∨x.m=3∨x.m=4∨x.m=5∨x.m=6) (hfc:c.fine=true) (hs:x.s=1) (hf2:((c.place 2 x.m x.k x.e).push c.r.p).fine=true) :
  Calls prog 111 #[.pointer (some ⟨p,0,none⟩),.agg (inX x),iv t] w fun e w'=>e=.returned (.tuple #[])∧∃g3,MAt w' lo mid hi p g3 (c.jump x t)∧Since w lo hi g2 w' g3:=by
 have HG:=hide G
 have HI:=hide B
 have HOP:=hide ho
 have HSU:=hide hs
 clear hs
 clear ho
 have hl:=h.lo
 obtain ⟨X,hX,KA,HX,hbw,HHB,HGB,HPH,HPB,HMH,HS,HM⟩:=h.dL x
 obtain ⟨b0,b1,b2,b3,b4,b5,b6⟩:=aF HX.o
 rw [HOP.o] at b0
 rw [HSU.o] at b6
 clear h
 obtain ⟨gd,cd,ga,ca,g1,c1,c2,HB,HO⟩:=HM.o.op
 clear G B
 have HG1:=hide (HG.o.place (z:=2) (m:=x.m) (e:=x.e) HI.o.k0 HI.o.k1)
 have HFP:=Pl.xG c 2 x.m x.k x.e
 have hf:(c.place 2 x.m x.k x.e).fine=true:=by
  rw [←hfc];unfold Pl.Mc.place;cases x.m==0<;>rfl
 have HRD:=fun w9 h9=>sQ w9 lo mid hi p g2 c 2 x.m x.k x.e h9 HG.o HI.o.k0 HI.o.k1 HI.o.e0 HI.o.e1 hm
 have E:Hid (c.jump x t=(((c.place 2 x.m x.k x.e).push c.r.p).aJ (c.iL 2 x.m x.k x.e))):=hide (by unfold Pl.Mc.jump;rw [HOP.o,HSU.o,hf2];rfl)
 obtain ⟨d,hd⟩:∃d,c.place 2 x.m x.k x.e=d:=⟨_,rfl⟩
 obtain ⟨a,hA⟩:∃a,c.iL 2 x.m x.k x.e=a:=⟨_,rfl⟩
 rw [hd] at hf HG1 HFP
 first|rw [hd,hA] at E|rw [hd] at E
 simp only [hd,hA] at HRD
 rw [hd,←HFP] at hf2
 rw [←HFP] at E
 have HP0:=hide HG1.o.p0
 have HP1:=hide HG1.o.p1
 clear HFP
 clear hd hA hfc hm
 go_enter func111,ntmps111
 go_wp2_with (first|(go_at_call 81;refine (Qz _ lo mid hi p aT d d.r.p aW.o HG1.o HP0.o HP1.o).mono ?_;rintro e9 W_2 ⟨rfl,kV,hm9,hb9⟩;obtain ⟨dM,qj,gX⟩:=hb9.nx bg HHB bY bI;clear hb9;have gZ:=hide hm9;obtain ⟨wG,wJ,wH,wK,xY,yI,yH,aN,iq⟩:=hm9.op;have uM:=aN.o.k3;have vO:=aN.o.frozen 3;clear b0 b1 b2 b3 b4 b5 b6;obtain ⟨b0,b1,b2,b3,b4,b5,b6⟩:=aF dM.o;rw [HOP.o] at b0;rw [HSU.o] at b6)|(go_at_call 68;have z9:=gZ;refine st (bK _ lo mid hi p kV _ gZ.o) ?_;rw [hf2])|(go_at_call 104;refine (HRD _ HM.o).mono ?_;rintro e9 W_1 ⟨rfl,aT,hm9,hb9⟩;obtain ⟨bg,bY,bI⟩:=hb9.nx HX HHB HGB HS;clear hb9;have aW:=hide hm9;obtain ⟨bQ,bU,bT,bV,eu,eP,eG,aX,bu⟩:=hm9.op;have kC:=aX.o.k3;have FY:=aX.o.frozen 3;clear b0 b1 b2 b3 b4 b5 b6;obtain ⟨b0,b1,b2,b3,b4,b5,b6⟩:=aF bg.o;rw [HOP.o] at b0;rw [HSU.o] at b6))
 first|go_end0|refine bodyPost_ret (results_none rfl _ _ _) rfl ?_
 exact ⟨rfl,kV,by rw [E.o];exact gZ.o.cP _,gX.o.set p 3 _ HPH.o⟩
theorem Bi (w:World) (lo mid hi p g2:Nat) (c:Pl.Mc) (x:Pl.In) (t:Int) (h:MAt w lo mid hi p g2 c) (G:Pl.GM c) (B:Pl.InB x) (ho:x.op=14) (hm:x.m=0∨x.m=2∨x.m=3∨x.m=4∨x.m=5∨x.m=6) (hfc:c.fine=true) (hs:x.s=1) (hf2:((c.place 2 x.m x.k x.e).push c.r.p).fine=false) :
  Calls prog 111 #[.pointer (some ⟨p,0,none⟩),.agg (inX x),iv t] w fun e w'=>e=.returned (.tuple #[])∧∃g3,MAt w' lo mid hi p g3 (c.jump x t)∧Since w lo hi g2 w' g3:=by
 have HG:=hide G
 have HI:=hide B
 have HOP:=hide ho
 have HSU:=hide hs
 clear hs
 clear ho
 have hl:=h.lo
 obtain ⟨X,hX,KA,HX,hbw,HHB,HGB,HPH,HPB,HMH,HS,HM⟩:=h.dL x
 obtain ⟨b0,b1,b2,b3,b4,b5,b6⟩:=aF HX.o
 rw [HOP.o] at b0
 rw [HSU.o] at b6
 clear h
 obtain ⟨gd,cd,ga,ca,g1,c1,c2,HB,HO⟩:=HM.o.op
 clear G B
 have HG1:=hide (HG.o.place (z:=2) (m:=x.m) (e:=x.e) HI.o.k0 HI.o.k1)
 have HFP:=Pl.xG c 2 x.m x.k x.e
 have hf:(c.place 2 x.m x.k x.e).fine=true:=by
  rw [←hfc];unfold Pl.Mc.place;cases x.m==0<;>rfl
 have HRD:=fun w9 h9=>sQ w9 lo mid hi p g2 c 2 x.m x.k x.e h9 HG.o HI.o.k0 HI.o.k1 HI.o.e0 HI.o.e1 hm
 have E:Hid (c.jump x t=((c.place 2 x.m x.k x.e).push c.r.p)):=hide (by unfold Pl.Mc.jump;rw [HOP.o,HSU.o,hf2];rfl)
 obtain ⟨d,hd⟩:∃d,c.place 2 x.m x.k x.e=d:=⟨_,rfl⟩
 obtain ⟨a,hA⟩:∃a,c.iL 2 x.m x.k x.e=a:=⟨_,rfl⟩
 rw [hd] at hf HG1 HFP
 first|rw [hd,hA] at E|rw [hd] at E
 simp only [hd,hA] at HRD
 rw [hd,←HFP] at hf2
 rw [←HFP] at E
 have HP0:=hide HG1.o.p0
 have HP1:=hide HG1.o.p1
 clear HFP
 clear hd hA hfc hm
 go_enter func111,ntmps111
 go_wp2_with (first|(go_at_call 81;refine (Qz _ lo mid hi p aT d d.r.p aW.o HG1.o HP0.o HP1.o).mono ?_;rintro e9 W_2 ⟨rfl,kV,hm9,hb9⟩;obtain ⟨dM,qj,gX⟩:=hb9.nx bg HHB bY bI;clear hb9;have gZ:=hide hm9;obtain ⟨wG,wJ,wH,wK,xY,yI,yH,aN,iq⟩:=hm9.op;have uM:=aN.o.k3;have vO:=aN.o.frozen 3;clear b0 b1 b2 b3 b4 b5 b6;obtain ⟨b0,b1,b2,b3,b4,b5,b6⟩:=aF dM.o;rw [HOP.o] at b0;rw [HSU.o] at b6)|(go_at_call 68;have z9:=gZ;refine st (bK _ lo mid hi p kV _ gZ.o) ?_;rw [hf2])|(go_at_call 104;refine (HRD _ HM.o).mono ?_;rintro e9 W_1 ⟨rfl,aT,hm9,hb9⟩;obtain ⟨bg,bY,bI⟩:=hb9.nx HX HHB HGB HS;clear hb9;have aW:=hide hm9;obtain ⟨bQ,bU,bT,bV,eu,eP,eG,aX,bu⟩:=hm9.op;have kC:=aX.o.k3;have FY:=aX.o.frozen 3;clear b0 b1 b2 b3 b4 b5 b6;obtain ⟨b0,b1,b2,b3,b4,b5,b6⟩:=aF bg.o;rw [HOP.o] at b0;rw [HSU.o] at b6))
 first|go_end0|refine bodyPost_ret (results_none rfl _ _ _) rfl ?_
 exact ⟨rfl,kV,by rw [E.o];exact gZ.o,gX.o⟩
theorem QA (w:World) (lo mid hi p g2:Nat) (c:Pl.Mc) (x:Pl.In) (t:Int) (h:MAt w lo mid hi p g2 c) (G:Pl.GM c) (B:Pl.InB x) (t0:0≤t) (t1:t≤65535) (hfc:c.fine=true) (ho:(x.op=13∧x.r≤1)∨(x.op=14∧(x.m=0∨x.m=2∨x.m=3∨x.m=4∨x.m=5∨x.m=6))) :
  Calls prog 111 #[.pointer (some ⟨p,0,none⟩),.agg (inX x),iv t] w fun e w'=>e=.returned (.tuple #[])∧∃g3,MAt w' lo mid hi p g3 (c.jump x t)∧Since w lo hi g2 w' g3:=by
 rcases ho with ⟨ho,r1⟩|⟨ho,hm⟩
 ·cases hb:Pl.tst (x.s+8*x.r) c.r.f
  ·exact Fa w lo mid hi p g2 c x t h G B ho r1 t0 t1 hb
  ·exact E8 w lo mid hi p g2 c x t h G B ho r1 t0 t1 hb
 ·by_cases hs:x.s=1
  ·cases hf2:((c.place 2 x.m x.k x.e).push c.r.p).fine
   ·exact Bi w lo mid hi p g2 c x t h G B ho hm hfc hs hf2
   ·exact Bh w lo mid hi p g2 c x t h G B ho hm hfc hs hf2
  ·exact Je w lo mid hi p g2 c x t h G B ho hm hfc (by simpa using hs)
theorem Ob (w:World) (lo mid hi p g2:Nat) (c:Pl.Mc) (x:Pl.In) (t:Int) (h:MAt w lo mid hi p g2 c) (G:Pl.GM c) (B:Pl.InB x) (ho:x.op=11) (hm:x.m=0∨x.m=2∨x.m=3∨x.m=4∨x.m=5∨x.m=6) (hfc:c.fine=true) (hs:x.s=0∨x.s=1∨x.s=2∨x.s=3) :
  Calls prog 70 #[.pointer (some ⟨p,0,none⟩),.agg (inX x),iv t] w fun e w'=>e=.returned (.tuple #[])∧∃g3,MAt w' lo mid hi p g3 (c.doI x t)∧Since w lo hi g2 w' g3:=by
 have HOP:=hide ho
 have HC:=fun w9 h9=>XR w9 lo mid hi p g2 c x h9 G B hm hfc hs
 have E:Hid (c.doI x t=c.one x):=hide (by unfold Pl.Mc.doI;rw [HOP.o];rfl)
 unfold inX at HC
 rw [ho] at HC
 clear ho
 have hl:=h.lo
 obtain ⟨X,hX,KA,HX,hbw,HHB,HGB,HPH,HPB,HMH,HS,HM⟩:=h.dL x
 obtain ⟨b0,b1,b2,b3,b4,b5,b6⟩:=aF HX.o
 rw [HOP.o] at b0
 clear h
 obtain ⟨gd,cd,ga,ca,g1,c1,c2,HB,HO⟩:=HM.o.op
 clear G B
 go_enter func70,ntmps70
 go_wp2_with (go_at_call 108;refine (HC _ HM.o).mono ?_;rintro e9 W_1 ⟨rfl,aT,hm9,hb9⟩;obtain ⟨bg,bY,bI⟩:=hb9.nx HX HHB HGB HS;clear hb9;have aW:=hide hm9;obtain ⟨bQ,bU,bT,bV,eu,eP,eG,aX,bu⟩:=hm9.op)
 first|go_end0|refine bodyPost_ret (results_none rfl _ _ _) rfl ?_
 exact ⟨rfl,aT,by rw [E.o];exact aW.o,bI.o⟩
theorem BC (w:World) (lo mid hi p g2:Nat) (c:Pl.Mc) (x:Pl.In) (t:Int) (h:MAt w lo mid hi p g2 c) (G:Pl.GM c) (B:Pl.InB x) (ho:x.op=13) (t0:0≤t) (t1:t≤65535) (hfc:c.fine=true) (r2:x.r≤1) :
  Calls prog 70 #[.pointer (some ⟨p,0,none⟩),.agg (inX x),iv t] w fun e w'=>e=.returned (.tuple #[])∧∃g3,MAt w' lo mid hi p g3 (c.doI x t)∧Since w lo hi g2 w' g3:=by
 have HOP:=hide ho
 have HC:=fun w9 h9=>QA w9 lo mid hi p g2 c x t h9 G B t0 t1 hfc (.inl ⟨ho,r2⟩)
 have E:Hid (c.doI x t=c.jump x t):=hide (by unfold Pl.Mc.doI;rw [HOP.o];rfl)
 unfold inX at HC
 rw [ho] at HC
 clear ho
 have hl:=h.lo
 obtain ⟨X,hX,KA,HX,hbw,HHB,HGB,HPH,HPB,HMH,HS,HM⟩:=h.dL x
 obtain ⟨b0,b1,b2,b3,b4,b5,b6⟩:=aF HX.o
 rw [HOP.o] at b0
 clear h
 obtain ⟨gd,cd,ga,ca,g1,c1,c2,HB,HO⟩:=HM.o.op
 clear G B
 go_enter func70,ntmps70
 go_wp2_with (go_at_call 111;refine (HC _ HM.o).mono ?_;rintro e9 W_1 ⟨rfl,aT,hm9,hb9⟩;obtain ⟨bg,bY,bI⟩:=hb9.nx HX HHB HGB HS;clear hb9;have aW:=hide hm9;obtain ⟨bQ,bU,bT,bV,eu,eP,eG,aX,bu⟩:=hm9.op)
 first|go_end0|refine bodyPost_ret (results_none rfl _ _ _) rfl ?_
 exact ⟨rfl,aT,by rw [E.o];exact aW.o,bI.o⟩
theorem Jm (w:World) (lo mid hi p g2:Nat) (c:Pl.Mc) (x:Pl.In) (t:Int) (h:MAt w lo mid hi p g2 c) (G:Pl.GM c) (B:Pl.InB x) (ho:x.op=14) (t0:0≤t) (t1:t≤65535) (hfc:c.fine=true) (hm:x.m=0∨x.m=2∨x.m=3∨x.m=4∨x.m=5∨x.m=6) :
  Calls prog 70 #[.pointer (some ⟨p,0,none⟩),.agg (inX x),iv t] w fun e w'=>e=.returned (.tuple #[])∧∃g3,MAt w' lo mid hi p g3 (c.doI x t)∧Since w lo hi g2 w' g3:=by
 have HOP:=hide ho
 have HC:=fun w9 h9=>QA w9 lo mid hi p g2 c x t h9 G B t0 t1 hfc (.inr ⟨ho,hm⟩)
 have E:Hid (c.doI x t=c.jump x t):=hide (by unfold Pl.Mc.doI;rw [HOP.o];rfl)
 unfold inX at HC
 rw [ho] at HC
 clear ho
 have hl:=h.lo
 obtain ⟨X,hX,KA,HX,hbw,HHB,HGB,HPH,HPB,HMH,HS,HM⟩:=h.dL x
 obtain ⟨b0,b1,b2,b3,b4,b5,b6⟩:=aF HX.o
 rw [HOP.o] at b0
 clear h
 obtain ⟨gd,cd,ga,ca,g1,c1,c2,HB,HO⟩:=HM.o.op
 clear G B
 go_enter func70,ntmps70
 go_wp2_with (go_at_call 111;refine (HC _ HM.o).mono ?_;rintro e9 W_1 ⟨rfl,aT,hm9,hb9⟩;obtain ⟨bg,bY,bI⟩:=hb9.nx HX HHB HGB HS;clear hb9;have aW:=hide hm9;obtain ⟨bQ,bU,bT,bV,eu,eP,eG,aX,bu⟩:=hm9.op)
 first|go_end0|refine bodyPost_ret (results_none rfl _ _ _) rfl ?_
 exact ⟨rfl,aT,by rw [E.o];exact aW.o,bI.o⟩
theorem zx (w:World) (lo mid hi p g2:Nat) (c:Pl.Mc) (x:Pl.In) (t:Int) (h:MAt w lo mid hi p g2 c) (G:Pl.GM c) (B:Pl.InB x) (ho:x.op=15) (s6:x.s≤6) (e3:x.s=3→x.e≤1023) :
  Calls prog 70 #[.pointer (some ⟨p,0,none⟩),.agg (inX x),iv t] w fun e w'=>e=.returned (.tuple #[])∧∃g3,MAt w' lo mid hi p g3 (c.doI x t)∧Since w lo hi g2 w' g3:=by
 have HOP:=hide ho
 have HC:=fun w9 h9=>Vz w9 lo mid hi p g2 c x h9 G B s6 e3
 have E:Hid (c.doI x t=c.iD x):=hide (by unfold Pl.Mc.doI;rw [HOP.o];rfl)
 unfold inX at HC
 rw [ho] at HC
 clear ho
 have hl:=h.lo
 obtain ⟨X,hX,KA,HX,hbw,HHB,HGB,HPH,HPB,HMH,HS,HM⟩:=h.dL x
 obtain ⟨b0,b1,b2,b3,b4,b5,b6⟩:=aF HX.o
 rw [HOP.o] at b0
 clear h
 obtain ⟨gd,cd,ga,ca,g1,c1,c2,HB,HO⟩:=HM.o.op
 clear G B
 go_enter func70,ntmps70
 go_wp2_with (go_at_call 112;refine (HC _ HM.o).mono ?_;rintro e9 W_1 ⟨rfl,aT,hm9,hb9⟩;obtain ⟨bg,bY,bI⟩:=hb9.nx HX HHB HGB HS;clear hb9;have aW:=hide hm9;obtain ⟨bQ,bU,bT,bV,eu,eP,eG,aX,bu⟩:=hm9.op)
 first|go_end0|refine bodyPost_ret (results_none rfl _ _ _) rfl ?_
 exact ⟨rfl,aT,by rw [E.o];exact aW.o,bI.o⟩
theorem BB (w:World) (lo mid hi p g2:Nat) (c:Pl.Mc) (x:Pl.In) (t:Int) (h:MAt w lo mid hi p g2 c) (G:Pl.GM c) (B:Pl.InB x) (ho:x.op=16) :
  Calls prog 70 #[.pointer (some ⟨p,0,none⟩),.agg (inX x),iv t] w fun e w'=>e=.returned (.tuple #[])∧∃g3,MAt w' lo mid hi p g3 (c.doI x t)∧Since w lo hi g2 w' g3:=by
 have HOP:=hide ho
 have HC:=fun w9 h9=>zu w9 lo mid hi p g2 c x h9 G B (.inl ho)
 have E:Hid (c.doI x t=c.product x):=hide (by unfold Pl.Mc.doI;rw [HOP.o];rfl)
 unfold inX at HC
 rw [ho] at HC
 clear ho
 have hl:=h.lo
 obtain ⟨X,hX,KA,HX,hbw,HHB,HGB,HPH,HPB,HMH,HS,HM⟩:=h.dL x
 obtain ⟨b0,b1,b2,b3,b4,b5,b6⟩:=aF HX.o
 rw [HOP.o] at b0
 clear h
 obtain ⟨gd,cd,ga,ca,g1,c1,c2,HB,HO⟩:=HM.o.op
 clear G B
 go_enter func70,ntmps70
 go_wp2_with (go_at_call 113;refine (HC _ HM.o).mono ?_;rintro e9 W_1 ⟨rfl,aT,hm9,hb9⟩;obtain ⟨bg,bY,bI⟩:=hb9.nx HX HHB HGB HS;clear hb9;have aW:=hide hm9;obtain ⟨bQ,bU,bT,bV,eu,eP,eG,aX,bu⟩:=hm9.op)
 first|go_end0|refine bodyPost_ret (results_none rfl _ _ _) rfl ?_
 exact ⟨rfl,aT,by rw [E.o];exact aW.o,bI.o⟩
theorem Bz (w:World) (lo mid hi p g2:Nat) (c:Pl.Mc) (x:Pl.In) (t:Int) (h:MAt w lo mid hi p g2 c) (G:Pl.GM c) (B:Pl.InB x) (ho:x.op=17) :
  Calls prog 70 #[.pointer (some ⟨p,0,none⟩),.agg (inX x),iv t] w fun e w'=>e=.returned (.tuple #[])∧∃g3,MAt w' lo mid hi p g3 (c.doI x t)∧Since w lo hi g2 w' g3:=by
 have HOP:=hide ho
 have HC:=fun w9 h9=>zu w9 lo mid hi p g2 c x h9 G B (.inr ho)
 have E:Hid (c.doI x t=c.product x):=hide (by unfold Pl.Mc.doI;rw [HOP.o];rfl)
 unfold inX at HC
 rw [ho] at HC
 clear ho
 have hl:=h.lo
 obtain ⟨X,hX,KA,HX,hbw,HHB,HGB,HPH,HPB,HMH,HS,HM⟩:=h.dL x
 obtain ⟨b0,b1,b2,b3,b4,b5,b6⟩:=aF HX.o
 rw [HOP.o] at b0
 clear h
 obtain ⟨gd,cd,ga,ca,g1,c1,c2,HB,HO⟩:=HM.o.op
 clear G B
 go_enter func70,ntmps70
 go_wp2_with (go_at_call 113;refine (HC _ HM.o).mono ?_;rintro e9 W_1 ⟨rfl,aT,hm9,hb9⟩;obtain ⟨bg,bY,bI⟩:=hb9.nx HX HHB HGB HS;clear hb9;have aW:=hide hm9;obtain ⟨bQ,bU,bT,bV,eu,eP,eG,aX,bu⟩:=hm9.op)
 first|go_end0|refine bodyPost_ret (results_none rfl _ _ _) rfl ?_
 exact ⟨rfl,aT,by rw [E.o];exact aW.o,bI.o⟩
theorem Oe (w:World) (lo mid hi p g2:Nat) (c:Pl.Mc) (x:Pl.In) (t:Int) (h:MAt w lo mid hi p g2 c) (G:Pl.GM c) (B:Pl.InB x) (ho:x.op=18) :
  Calls prog 70 #[.pointer (some ⟨p,0,none⟩),.agg (inX x),iv t] w fun e w'=>e=.returned (.tuple #[])∧∃g3,MAt w' lo mid hi p g3 (c.doI x t)∧Since w lo hi g2 w' g3:=by
 have HOP:=hide ho
 have HC:=fun w9 h9=>XT w9 lo mid hi p g2 c x h9 G B
 have E:Hid (c.doI x t=c.jw x):=hide (by unfold Pl.Mc.doI;rw [HOP.o];rfl)
 unfold inX at HC
 rw [ho] at HC
 clear ho
 have hl:=h.lo
 obtain ⟨X,hX,KA,HX,hbw,HHB,HGB,HPH,HPB,HMH,HS,HM⟩:=h.dL x
 obtain ⟨b0,b1,b2,b3,b4,b5,b6⟩:=aF HX.o
 rw [HOP.o] at b0
 clear h
 obtain ⟨gd,cd,ga,ca,g1,c1,c2,HB,HO⟩:=HM.o.op
 clear G B
 go_enter func70,ntmps70
 go_wp2_with (go_at_call 114;refine (HC _ HM.o).mono ?_;rintro e9 W_1 ⟨rfl,aT,hm9,hb9⟩;obtain ⟨bg,bY,bI⟩:=hb9.nx HX HHB HGB HS;clear hb9;have aW:=hide hm9;obtain ⟨bQ,bU,bT,bV,eu,eP,eG,aX,bu⟩:=hm9.op)
 first|go_end0|refine bodyPost_ret (results_none rfl _ _ _) rfl ?_
 exact ⟨rfl,aT,by rw [E.o];exact aW.o,bI.o⟩
theorem Jl (w:World) (lo mid hi p g2:Nat) (c:Pl.Mc) (x:Pl.In) (t:Int) (h:MAt w lo mid hi p g2 c) (G:Pl.GM c) (B:Pl.InB x) (ho:x.op=1) (h1:x.m=1→x.z=2) :
  Calls prog 70 #[.pointer (some ⟨p,0,none⟩),.agg (inX x),iv t] w fun e w'=>e=.returned (.tuple #[])∧∃g3,MAt w' lo mid hi p g3 (c.doI x t)∧Since w lo hi g2 w' g3:=by
 have HOP:=hide ho
 have HC:=fun w9 h9=>Bc w9 lo mid hi p g2 c x h9 G B h1 (by rw [ho];decide)
 have E:Hid (c.doI x t=c.two x):=hide (by unfold Pl.Mc.doI;rw [HOP.o];rfl)
 unfold inX at HC
 rw [ho] at HC
 clear ho
 have hl:=h.lo
 obtain ⟨X,hX,KA,HX,hbw,HHB,HGB,HPH,HPB,HMH,HS,HM⟩:=h.dL x
 obtain ⟨b0,b1,b2,b3,b4,b5,b6⟩:=aF HX.o
 rw [HOP.o] at b0
 clear h
 obtain ⟨gd,cd,ga,ca,g1,c1,c2,HB,HO⟩:=HM.o.op
 clear G B
 go_enter func70,ntmps70
 go_wp2_with (go_at_call 116;refine (HC _ HM.o).mono ?_;rintro e9 W_1 ⟨rfl,aT,hm9,hb9⟩;obtain ⟨bg,bY,bI⟩:=hb9.nx HX HHB HGB HS;clear hb9;have aW:=hide hm9;obtain ⟨bQ,bU,bT,bV,eu,eP,eG,aX,bu⟩:=hm9.op)
 first|go_end0|refine bodyPost_ret (results_none rfl _ _ _) rfl ?_
 exact ⟨rfl,aT,by rw [E.o];exact aW.o,bI.o⟩
theorem Jk (w:World) (lo mid hi p g2:Nat) (c:Pl.Mc) (x:Pl.In) (t:Int) (h:MAt w lo mid hi p g2 c) (G:Pl.GM c) (B:Pl.InB x) (ho:x.op=3) (h1:x.m=1→x.z=2) :
  Calls prog 70 #[.pointer (some ⟨p,0,none⟩),.agg (inX x),iv t] w fun e w'=>e=.returned (.tuple #[])∧∃g3,MAt w' lo mid hi p g3 (c.doI x t)∧Since w lo hi g2 w' g3:=by
 have HOP:=hide ho
 have HC:=fun w9 h9=>Bc w9 lo mid hi p g2 c x h9 G B h1 (by rw [ho];decide)
 have E:Hid (c.doI x t=c.two x):=hide (by unfold Pl.Mc.doI;rw [HOP.o];rfl)
 unfold inX at HC
 rw [ho] at HC
 clear ho
 have hl:=h.lo
 obtain ⟨X,hX,KA,HX,hbw,HHB,HGB,HPH,HPB,HMH,HS,HM⟩:=h.dL x
 obtain ⟨b0,b1,b2,b3,b4,b5,b6⟩:=aF HX.o
 rw [HOP.o] at b0
 clear h
 obtain ⟨gd,cd,ga,ca,g1,c1,c2,HB,HO⟩:=HM.o.op
 clear G B
 go_enter func70,ntmps70
 go_wp2_with (go_at_call 116;refine (HC _ HM.o).mono ?_;rintro e9 W_1 ⟨rfl,aT,hm9,hb9⟩;obtain ⟨bg,bY,bI⟩:=hb9.nx HX HHB HGB HS;clear hb9;have aW:=hide hm9;obtain ⟨bQ,bU,bT,bV,eu,eP,eG,aX,bu⟩:=hm9.op)
 first|go_end0|refine bodyPost_ret (results_none rfl _ _ _) rfl ?_
 exact ⟨rfl,aT,by rw [E.o];exact aW.o,bI.o⟩
theorem Jj (w:World) (lo mid hi p g2:Nat) (c:Pl.Mc) (x:Pl.In) (t:Int) (h:MAt w lo mid hi p g2 c) (G:Pl.GM c) (B:Pl.InB x) (ho:x.op=4) (h1:x.m=1→x.z=2) :
  Calls prog 70 #[.pointer (some ⟨p,0,none⟩),.agg (inX x),iv t] w fun e w'=>e=.returned (.tuple #[])∧∃g3,MAt w' lo mid hi p g3 (c.doI x t)∧Since w lo hi g2 w' g3:=by
 have HOP:=hide ho
 have HC:=fun w9 h9=>Bc w9 lo mid hi p g2 c x h9 G B h1 (by rw [ho];decide)
 have E:Hid (c.doI x t=c.two x):=hide (by unfold Pl.Mc.doI;rw [HOP.o];rfl)
 unfold inX at HC
 rw [ho] at HC
 clear ho
 have hl:=h.lo
 obtain ⟨X,hX,KA,HX,hbw,HHB,HGB,HPH,HPB,HMH,HS,HM⟩:=h.dL x
 obtain ⟨b0,b1,b2,b3,b4,b5,b6⟩:=aF HX.o
 rw [HOP.o] at b0
 clear h
 obtain ⟨gd,cd,ga,ca,g1,c1,c2,HB,HO⟩:=HM.o.op
 clear G B
 go_enter func70,ntmps70
 go_wp2_with (go_at_call 116;refine (HC _ HM.o).mono ?_;rintro e9 W_1 ⟨rfl,aT,hm9,hb9⟩;obtain ⟨bg,bY,bI⟩:=hb9.nx HX HHB HGB HS;clear hb9;have aW:=hide hm9;obtain ⟨bQ,bU,bT,bV,eu,eP,eG,aX,bu⟩:=hm9.op)
 first|go_end0|refine bodyPost_ret (results_none rfl _ _ _) rfl ?_
 exact ⟨rfl,aT,by rw [E.o];exact aW.o,bI.o⟩
theorem Ji (w:World) (lo mid hi p g2:Nat) (c:Pl.Mc) (x:Pl.In) (t:Int) (h:MAt w lo mid hi p g2 c) (G:Pl.GM c) (B:Pl.InB x) (ho:x.op=5) (h1:x.m=1→x.z=2) :
  Calls prog 70 #[.pointer (some ⟨p,0,none⟩),.agg (inX x),iv t] w fun e w'=>e=.returned (.tuple #[])∧∃g3,MAt w' lo mid hi p g3 (c.doI x t)∧Since w lo hi g2 w' g3:=by
 have HOP:=hide ho
 have HC:=fun w9 h9=>Bc w9 lo mid hi p g2 c x h9 G B h1 (by rw [ho];decide)
 have E:Hid (c.doI x t=c.two x):=hide (by unfold Pl.Mc.doI;rw [HOP.o];rfl)
 unfold inX at HC
 rw [ho] at HC
 clear ho
 have hl:=h.lo
 obtain ⟨X,hX,KA,HX,hbw,HHB,HGB,HPH,HPB,HMH,HS,HM⟩:=h.dL x
 obtain ⟨b0,b1,b2,b3,b4,b5,b6⟩:=aF HX.o
 rw [HOP.o] at b0
 clear h
 obtain ⟨gd,cd,ga,ca,g1,c1,c2,HB,HO⟩:=HM.o.op
 clear G B
 go_enter func70,ntmps70
 go_wp2_with (go_at_call 116;refine (HC _ HM.o).mono ?_;rintro e9 W_1 ⟨rfl,aT,hm9,hb9⟩;obtain ⟨bg,bY,bI⟩:=hb9.nx HX HHB HGB HS;clear hb9;have aW:=hide hm9;obtain ⟨bQ,bU,bT,bV,eu,eP,eG,aX,bu⟩:=hm9.op)
 first|go_end0|refine bodyPost_ret (results_none rfl _ _ _) rfl ?_
 exact ⟨rfl,aT,by rw [E.o];exact aW.o,bI.o⟩
theorem Jh (w:World) (lo mid hi p g2:Nat) (c:Pl.Mc) (x:Pl.In) (t:Int) (h:MAt w lo mid hi p g2 c) (G:Pl.GM c) (B:Pl.InB x) (ho:x.op=6) (h1:x.m=1→x.z=2) :
  Calls prog 70 #[.pointer (some ⟨p,0,none⟩),.agg (inX x),iv t] w fun e w'=>e=.returned (.tuple #[])∧∃g3,MAt w' lo mid hi p g3 (c.doI x t)∧Since w lo hi g2 w' g3:=by
 have HOP:=hide ho
 have HC:=fun w9 h9=>Bc w9 lo mid hi p g2 c x h9 G B h1 (by rw [ho];decide)
 have E:Hid (c.doI x t=c.two x):=hide (by unfold Pl.Mc.doI;rw [HOP.o];rfl)
 unfold inX at HC
 rw [ho] at HC
 clear ho
 have hl:=h.lo
 obtain ⟨X,hX,KA,HX,hbw,HHB,HGB,HPH,HPB,HMH,HS,HM⟩:=h.dL x
 obtain ⟨b0,b1,b2,b3,b4,b5,b6⟩:=aF HX.o
 rw [HOP.o] at b0
 clear h
 obtain ⟨gd,cd,ga,ca,g1,c1,c2,HB,HO⟩:=HM.o.op
 clear G B
 go_enter func70,ntmps70
 go_wp2_with (go_at_call 116;refine (HC _ HM.o).mono ?_;rintro e9 W_1 ⟨rfl,aT,hm9,hb9⟩;obtain ⟨bg,bY,bI⟩:=hb9.nx HX HHB HGB HS;clear hb9;have aW:=hide hm9;obtain ⟨bQ,bU,bT,bV,eu,eP,eG,aX,bu⟩:=hm9.op)
 first|go_end0|refine bodyPost_ret (results_none rfl _ _ _) rfl ?_
 exact ⟨rfl,aT,by rw [E.o];exact aW.o,bI.o⟩
theorem Jg (w:World) (lo mid hi p g2:Nat) (c:Pl.Mc) (x:Pl.In) (t:Int) (h:MAt w lo mid hi p g2 c) (G:Pl.GM c) (B:Pl.InB x) (ho:x.op=7) (h1:x.m=1→x.z=2) :
  Calls prog 70 #[.pointer (some ⟨p,0,none⟩),.agg (inX x),iv t] w fun e w'=>e=.returned (.tuple #[])∧∃g3,MAt w' lo mid hi p g3 (c.doI x t)∧Since w lo hi g2 w' g3:=by
 have HOP:=hide ho
 have HC:=fun w9 h9=>Bc w9 lo mid hi p g2 c x h9 G B h1 (by rw [ho];decide)
 have E:Hid (c.doI x t=c.two x):=hide (by unfold Pl.Mc.doI;rw [HOP.o];rfl)
 unfold inX at HC
 rw [ho] at HC
 clear ho
 have hl:=h.lo
 obtain ⟨X,hX,KA,HX,hbw,HHB,HGB,HPH,HPB,HMH,HS,HM⟩:=h.dL x
 obtain ⟨b0,b1,b2,b3,b4,b5,b6⟩:=aF HX.o
 rw [HOP.o] at b0
 clear h
 obtain ⟨gd,cd,ga,ca,g1,c1,c2,HB,HO⟩:=HM.o.op
 clear G B
 go_enter func70,ntmps70
 go_wp2_with (go_at_call 116;refine (HC _ HM.o).mono ?_;rintro e9 W_1 ⟨rfl,aT,hm9,hb9⟩;obtain ⟨bg,bY,bI⟩:=hb9.nx HX HHB HGB HS;clear hb9;have aW:=hide hm9;obtain ⟨bQ,bU,bT,bV,eu,eP,eG,aX,bu⟩:=hm9.op)
 first|go_end0|refine bodyPost_ret (results_none rfl _ _ _) rfl ?_
 exact ⟨rfl,aT,by rw [E.o];exact aW.o,bI.o⟩
theorem Jf (w:World) (lo mid hi p g2:Nat) (c:Pl.Mc) (x:Pl.In) (t:Int) (h:MAt w lo mid hi p g2 c) (G:Pl.GM c) (B:Pl.InB x) (ho:x.op=8) (h1:x.m=1→x.z=2) :
  Calls prog 70 #[.pointer (some ⟨p,0,none⟩),.agg (inX x),iv t] w fun e w'=>e=.returned (.tuple #[])∧∃g3,MAt w' lo mid hi p g3 (c.doI x t)∧Since w lo hi g2 w' g3:=by
 have HOP:=hide ho
 have HC:=fun w9 h9=>Bc w9 lo mid hi p g2 c x h9 G B h1 (by rw [ho];decide)
 have E:Hid (c.doI x t=c.two x):=hide (by unfold Pl.Mc.doI;rw [HOP.o];rfl)
 unfold inX at HC
 rw [ho] at HC
 clear ho
 have hl:=h.lo
 obtain ⟨X,hX,KA,HX,hbw,HHB,HGB,HPH,HPB,HMH,HS,HM⟩:=h.dL x
 obtain ⟨b0,b1,b2,b3,b4,b5,b6⟩:=aF HX.o
 rw [HOP.o] at b0
 clear h
 obtain ⟨gd,cd,ga,ca,g1,c1,c2,HB,HO⟩:=HM.o.op
 clear G B
 go_enter func70,ntmps70
 go_wp2_with (go_at_call 116;refine (HC _ HM.o).mono ?_;rintro e9 W_1 ⟨rfl,aT,hm9,hb9⟩;obtain ⟨bg,bY,bI⟩:=hb9.nx HX HHB HGB HS;clear hb9;have aW:=hide hm9;obtain ⟨bQ,bU,bT,bV,eu,eP,eG,aX,bu⟩:=hm9.op)
 first|go_end0|refine bodyPost_ret (results_none rfl _ _ _) rfl ?_
 exact ⟨rfl,aT,by rw [E.o];exact aW.o,bI.o⟩
theorem zy (w:World) (lo mid hi p g2:Nat) (c:Pl.Mc) (x:Pl.In) (t:Int) (h:MAt w lo mid hi p g2 c) (G:Pl.GM c) (B:Pl.InB x) (ho:x.op=9) (hf:(c.read 2 x.m x.k x.e).fine=false) :
  Calls prog 70 #[.pointer (some ⟨p,0,none⟩),.agg (inX x),iv t] w fun e w'=>e=.returned (.tuple #[])∧∃g3,MAt w' lo mid hi p g3 (c.doI x t)∧Since w lo hi g2 w' g3:=by
 have HG:=hide G
 have HI:=hide B
 have HOP:=hide ho
 clear ho
 have hl:=h.lo
 obtain ⟨X,hX,KA,HX,hbw,HHB,HGB,HPH,HPB,HMH,HS,HM⟩:=h.dL x
 obtain ⟨b0,b1,b2,b3,b4,b5,b6⟩:=aF HX.o
 rw [HOP.o] at b0
 clear h
 obtain ⟨gd,cd,ga,ca,g1,c1,c2,HB,HO⟩:=HM.o.op
 clear G B
 have r0:=HI.o.r0
 have r1:=HI.o.r1
 have r4:x.r<4:=by omega
 have HR4:Hid (x.r.toNat<4):=hide (by omega)
 have E:Hid (c.doI x t=c.read 2 x.m x.k x.e):=hide (by unfold Pl.Mc.doI;rw [HOP.o,hf];rfl)
 have HG1:=hide (HG.o.read (z:=2) (m:=x.m) (.inr rfl) HI.o.k0 HI.o.k1 HI.o.e0 HI.o.e1)
 have HRD:=fun w9 h9=>jJ w9 lo mid hi p g2 c 2 x.m x.k x.e h9 HG.o (.inr rfl) HI.o.k0 HI.o.k1 HI.o.e0 HI.o.e1 HI.o.m0 HI.o.m1
 obtain ⟨d,hd⟩:∃d,c.read 2 x.m x.k x.e=d:=⟨_,rfl⟩
 obtain ⟨v,hv⟩:∃v,c.aY 2 x.m x.k x.e=v:=⟨_,rfl⟩
 rw [hd] at hf HG1
 first|rw [hd,hv] at E|rw [hd] at E
 simp only [hd,hv] at HRD
 clear hd hv
 go_enter func70,ntmps70
 go_wp2_with (first|(go_at_call 103;refine (HRD _ HM.o).mono ?_;rintro e9 W_1 ⟨rfl,aT,hm9,hb9⟩;obtain ⟨bg,bY,bI⟩:=hb9.nx HX HHB HGB HS;clear hb9;have aW:=hide hm9;obtain ⟨bQ,bU,bT,bV,eu,eP,eG,aX,bu⟩:=hm9.op;clear b0 b1 b2 b3 b4 b5 b6;obtain ⟨b0,b1,b2,b3,b4,b5,b6⟩:=aF bg.o;rw [HOP.o] at b0)|(go_at_call 68;refine st (bK _ lo mid hi p aT _ aW.o) ?_;rw [hf]))
 first|go_end0|refine bodyPost_ret (results_none rfl _ _ _) rfl ?_
 exact ⟨rfl,aT,by rw [E.o];exact aW.o,bI.o⟩
theorem Jo (w:World) (lo mid hi p g2:Nat) (c:Pl.Mc) (x:Pl.In) (t:Int) (h:MAt w lo mid hi p g2 c) (G:Pl.GM c) (B:Pl.InB x) (ho:x.op=9) (hf:(c.read 2 x.m x.k x.e).fine=true) :
  Calls prog 70 #[.pointer (some ⟨p,0,none⟩),.agg (inX x),iv t] w fun e w'=>e=.returned (.tuple #[])∧∃g3,MAt w' lo mid hi p g3 (c.doI x t)∧Since w lo hi g2 w' g3:=by
 have HG:=hide G
 have HI:=hide B
 have HOP:=hide ho
 clear ho
 have hl:=h.lo
 obtain ⟨X,hX,KA,HX,hbw,HHB,HGB,HPH,HPB,HMH,HS,HM⟩:=h.dL x
 obtain ⟨b0,b1,b2,b3,b4,b5,b6⟩:=aF HX.o
 rw [HOP.o] at b0
 clear h
 obtain ⟨gd,cd,ga,ca,g1,c1,c2,HB,HO⟩:=HM.o.op
 clear G B
 have r0:=HI.o.r0
 have r1:=HI.o.r1
 have r4:x.r<4:=by omega
 have HR4:Hid (x.r.toNat<4):=hide (by omega)
 have E:Hid (c.doI x t=(c.read 2 x.m x.k x.e).fM x.r.toNat (c.aY 2 x.m x.k x.e)):=hide (by unfold Pl.Mc.doI;rw [HOP.o,hf];rfl)
 have HG1:=hide (HG.o.read (z:=2) (m:=x.m) (.inr rfl) HI.o.k0 HI.o.k1 HI.o.e0 HI.o.e1)
 have HRD:=fun w9 h9=>jJ w9 lo mid hi p g2 c 2 x.m x.k x.e h9 HG.o (.inr rfl) HI.o.k0 HI.o.k1 HI.o.e0 HI.o.e1 HI.o.m0 HI.o.m1
 obtain ⟨d,hd⟩:∃d,c.read 2 x.m x.k x.e=d:=⟨_,rfl⟩
 obtain ⟨v,hv⟩:∃v,c.aY 2 x.m x.k x.e=v:=⟨_,rfl⟩
 rw [hd] at hf HG1
 first|rw [hd,hv] at E|rw [hd] at E
 simp only [hd,hv] at HRD
 clear hd hv
 go_enter func70,ntmps70
 go_wp2_with (first|(go_at_call 103;refine (HRD _ HM.o).mono ?_;rintro e9 W_1 ⟨rfl,aT,hm9,hb9⟩;obtain ⟨bg,bY,bI⟩:=hb9.nx HX HHB HGB HS;clear hb9;have aW:=hide hm9;obtain ⟨bQ,bU,bT,bV,eu,eP,eG,aX,bu⟩:=hm9.op;have kW:=aX.o.k1;clear b0 b1 b2 b3 b4 b5 b6;obtain ⟨b0,b1,b2,b3,b4,b5,b6⟩:=aF bg.o;rw [HOP.o] at b0;obtain ⟨hc9,hf9⟩:=jH bu.o.a x.r.toNat (by rw [HG1.o.g.a4];exact HR4.o))|(go_at_call 68;refine st (bK _ lo mid hi p aT _ aW.o) ?_;rw [hf]))
 go_region
 go_wp2_with fail
 first|go_end0|refine bodyPost_ret (results_none rfl _ _ _) rfl ?_
 have q0:=bu.o.a0
 have q1:=bu.o.a1
 have q2:=bu.o.p0
 have q3:=bu.o.p1
 refine ⟨rfl,aT,MAt.drew ?_,(bI.o.set _ _ _ (.inl (by omega))).drew⟩
 rw [E.o]
 exact ⟨bQ,bU,bT,bV,eu,eP,eG,aX.o.sN _ _ _ (by omega),bu.o.fM _ _⟩
theorem Oc (w:World) (lo mid hi p g2:Nat) (c:Pl.Mc) (x:Pl.In) (t:Int) (h:MAt w lo mid hi p g2 c) (G:Pl.GM c) (B:Pl.InB x) (ho:x.op=10) (hm:x.m=0∨x.m=2∨x.m=3∨x.m=4∨x.m=5∨x.m=6) :
  Calls prog 70 #[.pointer (some ⟨p,0,none⟩),.agg (inX x),iv t] w fun e w'=>e=.returned (.tuple #[])∧∃g3,MAt w' lo mid hi p g3 (c.doI x t)∧Since w lo hi g2 w' g3:=by
 have HG:=hide G
 have HI:=hide B
 have HOP:=hide ho
 clear ho
 have hl:=h.lo
 obtain ⟨X,hX,KA,HX,hbw,HHB,HGB,HPH,HPB,HMH,HS,HM⟩:=h.dL x
 obtain ⟨b0,b1,b2,b3,b4,b5,b6⟩:=aF HX.o
 rw [HOP.o] at b0
 clear h
 obtain ⟨gd,cd,ga,ca,g1,c1,c2,HB,HO⟩:=HM.o.op
 clear G B
 have r0:=HI.o.r0
 have r1:=HI.o.r1
 have r4:x.r<4:=by omega
 have HR4:Hid (x.r.toNat<4):=hide (by omega)
 have E:Hid (c.doI x t=(c.place 2 x.m x.k x.e).fM x.r.toNat (c.iL 2 x.m x.k x.e)):=hide (by unfold Pl.Mc.doI;rw [HOP.o];rfl)
 have HG1:=hide (HG.o.place (z:=2) (m:=x.m) (e:=x.e) HI.o.k0 HI.o.k1)
 have HRD:=fun w9 h9=>sQ w9 lo mid hi p g2 c 2 x.m x.k x.e h9 HG.o HI.o.k0 HI.o.k1 HI.o.e0 HI.o.e1 hm
 obtain ⟨d,hd⟩:∃d,c.place 2 x.m x.k x.e=d:=⟨_,rfl⟩
 obtain ⟨a,hA⟩:∃a,c.iL 2 x.m x.k x.e=a:=⟨_,rfl⟩
 rw [hd] at HG1
 rw [hd,hA] at E
 simp only [hd,hA] at HRD
 clear hd hA hm
 go_enter func70,ntmps70
 go_wp2_with (go_at_call 104;refine (HRD _ HM.o).mono ?_;rintro e9 W_1 ⟨rfl,aT,hm9,hb9⟩;obtain ⟨bg,bY,bI⟩:=hb9.nx HX HHB HGB HS;clear hb9;have aW:=hide hm9;obtain ⟨bQ,bU,bT,bV,eu,eP,eG,aX,bu⟩:=hm9.op;have kW:=aX.o.k1;clear b0 b1 b2 b3 b4 b5 b6;obtain ⟨b0,b1,b2,b3,b4,b5,b6⟩:=aF bg.o;rw [HOP.o] at b0;obtain ⟨hc9,hf9⟩:=jH bu.o.a x.r.toNat (by rw [HG1.o.g.a4];exact HR4.o))
 go_region
 go_wp2_with fail
 first|go_end0|refine bodyPost_ret (results_none rfl _ _ _) rfl ?_
 have q0:=bu.o.a0
 have q1:=bu.o.a1
 have q2:=bu.o.p0
 have q3:=bu.o.p1
 refine ⟨rfl,aT,MAt.drew ?_,(bI.o.set _ _ _ (.inl (by omega))).drew⟩
 rw [E.o]
 exact ⟨bQ,bU,bT,bV,eu,eP,eG,aX.o.sN _ _ _ (by omega),bu.o.fM _ _⟩
theorem Nl (w:World) (gd cd ga ca:Nat) (r:Pl.Rg) (hg:Pl.Good r):Calls prog 115 #[iK r gd cd ga ca] w fun e w'=>e=.returned (iv (Pl.status r))∧Kept 0 0 w w':=by
 have h:=AC w r (some ⟨gd,0,none⟩) (some ⟨ga,0,none⟩) cd ca hg
 rw [hg.d4,hg.a4] at h
 exact h
theorem Fh (w:World) (lo mid hi p g2:Nat) (c:Pl.Mc) (x:Pl.In) (t:Int) (h:MAt w lo mid hi p g2 c) (G:Pl.GM c) (B:Pl.InB x) (ho:x.op=19) (hs:x.s=1) :
  Calls prog 70 #[.pointer (some ⟨p,0,none⟩),.agg (inX x),iv t] w fun e w'=>e=.returned (.tuple #[])∧∃g3,MAt w' lo mid hi p g3 (c.doI x t)∧Since w lo hi g2 w' g3:=by
 have HG:=hide G
 have HI:=hide B
 have HOP:=hide ho
 have HSU:=hide hs
 clear hs
 clear ho
 have hl:=h.lo
 obtain ⟨X,hX,KA,HX,hbw,HHB,HGB,HPH,HPB,HMH,HS,HM⟩:=h.dL x
 obtain ⟨b0,b1,b2,b3,b4,b5,b6⟩:=aF HX.o
 rw [HOP.o] at b0
 rw [HSU.o] at b6
 clear h
 obtain ⟨gd,cd,ga,ca,g1,c1,c2,HB,HO⟩:=HM.o.op
 clear G B
 have r0:=HI.o.r0
 have r1:=HI.o.r1
 have r4:x.r<4:=by omega
 have HR4:Hid (x.r.toNat<4):=hide (by omega)
 have E:Hid (c.doI x t=c.dh {c.r with xs:=c.r.xs.set x.r.toNat (Pl.status c.r)}):=hide (by unfold Pl.Mc.doI Pl.Mc.stat;rw [HOP.o,HSU.o];rfl)
 have HST:=fun w9=>Nl w9 gd cd ga ca c.r HG.o.g
 simp only [iK] at HST
 obtain ⟨V,hV⟩:∃V,Pl.status c.r=V:=⟨_,rfl⟩
 rw [hV] at E
 simp only [hV] at HST
 clear hV
 have KD:=hide (ae (Kept.refl 0 0 X))
 have S1D:=cellsS (HB.o.any KD.o) (HX.o.af KD.o)
 go_enter func70,ntmps70
 go_wp2_with fail
 go_region_held3 (fun w'=>w'.cell? ⟨p,0,none⟩=some (.slice (some ⟨gd,0,none⟩) 4 cd)∧w'.cell? ⟨p,1,none⟩=some (.slice (some ⟨ga,0,none⟩) 4 ca)∧w'.cell? ⟨p,2,none⟩=some (iv c.r.o)∧w'.cell? ⟨p,3,none⟩=some (iv c.r.p)∧w'.cell? ⟨p,4,none⟩=some (iv c.r.f)∧w'.cell? ⟨p,5,none⟩=some (iv c.r.m)∧w'.cell? ⟨p,6,none⟩=some (.bool c.r.s)∧w'.cell? ⟨p,7,none⟩=some (.bool c.r.t)∧w'.cell? ⟨w.heap.size,1,none⟩=some (iv x.z)∧w'.cell? ⟨w.heap.size,2,none⟩=some (iv x.r)) (first|with_reducible exact S1D|with_reducible exact cellsS aN.o dM.o|exact cellsS (aN.o.sN _ _ _ HPG.o) (dM.o.other _ _ _ HBG.o)|go_keep) (first|(go_at_call 115;refine (HST _).mono ?_;rintro e9 W_2 ⟨rfl,hk9⟩;have K2:=hide ((ae (Kept.refl 0 0 X)).trans hk9);clear hk9;have aN:=hide (HB.o.any K2.o);have iq:=hide (HO.o.any K2.o);have dM:=hide (HX.o.af K2.o);have gX:=hide (HS.o.any K2.o);obtain ⟨hc9,hf9⟩:=jH iq.o.d x.r.toNat (by rw [HG.o.g.d4];exact HR4.o);have HPG:Hid (p≠gd):=hide (by have:=iq.o.d1;have:=iq.o.p0;omega);have HBG:Hid (w.heap.size≠gd):=hide (by have:=iq.o.d1;have:=HHB.o;have:=HMH.o;omega)))
 go_wp2_with fail
 first|go_end0|refine bodyPost_ret (results_none rfl _ _ _) rfl ?_
 have q0:=iq.o.d0
 have q1:=iq.o.d1
 have q2:=iq.o.p0
 have q3:=iq.o.p1
 refine ⟨rfl,g2,?_,gX.o.set _ _ _ (.inl (by omega))⟩
 rw [E.o]
 exact ⟨gd,cd,ga,ca,g1,c1,c2,aN.o.sN _ _ _ (by omega),iq.o.Nv _ _⟩
end Go.Proofs.YtkkmnnhaailkcaaGreatDoor
