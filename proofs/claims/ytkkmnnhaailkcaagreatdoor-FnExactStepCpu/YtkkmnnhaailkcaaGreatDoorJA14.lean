/- Part 14 of what the last text leans on. -/
import Derived.Test.YtkkmnnhaailkcaaGreatDoorJA12
import Derived.Deep.RegionHeld3
import Derived.Test.YtkkmnnhaailkcaaGreatDoorJA1
import Derived.Test.YtkkmnnhaailkcaaGreatDoorJA2
set_option maxRecDepth 100000
set_option maxHeartbeats 16000000
namespace Go.Proofs.YtkkmnnhaailkcaaGreatDoor
open Go.RowKit Go.Proofs.Tryz
set_option linter.unusedVariables false
theorem Jb (w:World) (lo mid hi p g2:Nat) (c:Pl.Mc) (x:Pl.In) (h:MAt w lo mid hi p g2 c) (G:Pl.GM c) (B:Pl.InB x) (hf:(c.read 2 x.m x.k x.e).fine=false) :
  Calls prog 113 #[.pointer (some ⟨p,0,none⟩),.agg (inX x)] w fun e w'=>e=.returned (.tuple #[])∧∃g3,MAt w' lo mid hi p g3 (c.product x)∧Since w lo hi g2 w' g3:=by
 have HG:=hide G
 have HI:=hide B
 have HE2:Pl.okv 2 x.e=true:=by have:=B.e0;have:=B.e1;simp [Pl.okv,Pl.top];omega
 have HV:=hide (Pl.di (z:=2) (m:=x.m) G (.inr rfl) B.k0 B.k1 B.e0 B.e1 (fun _=>rfl) (fun _=>HE2))
 clear HE2
 have HG1:=hide (G.read (z:=2) (m:=x.m) (.inr rfl) B.k0 B.k1 B.e0 B.e1)
 have hl:=h.lo
 obtain ⟨X,hX,KA,HX,hbw,HHB,HGB,HPH,HPB,HMH,HS,HM⟩:=h.dL x
 obtain ⟨b0,b1,b2,b3,b4,b5,b6⟩:=aF HX.o
 clear h
 obtain ⟨gd,cd,ga,ca,g1,c1,c2,HB,HO⟩:=HM.o.op
 clear G B
 have E:Hid (c.product x=c.read 2 x.m x.k x.e):=hide (by unfold Pl.Mc.product;rw [hf];rfl)
 go_enter func113,ntmps113
 go_wp2_with (first|(go_at_call 103;refine (jJ _ lo mid hi p g2 c 2 x.m x.k x.e HM.o HG.o (.inr rfl) HI.o.k0 HI.o.k1 HI.o.e0 HI.o.e1 HI.o.m0 HI.o.m1).mono ?_;rintro e9 W_1 ⟨rfl,aT,hm9,hb9⟩;obtain ⟨bg,bY,bI⟩:=hb9.nx HX HHB HGB HS;clear hb9;have aW:=hide hm9;obtain ⟨bQ,bU,bT,bV,eu,eP,eG,aX,bu⟩:=hm9.op;clear b0 b1 b2 b3 b4 b5 b6;obtain ⟨b0,b1,b2,b3,b4,b5,b6⟩:=aF bg.o)|(go_at_call 68;refine st (bK _ lo mid hi p aT _ aW.o) ?_;rw [hf]))
 first|go_end0|refine bodyPost_ret (results_none rfl _ _ _) rfl ?_
 exact ⟨rfl,aT,by rw [E.o];exact aW.o,bI.o⟩
theorem EU (w:World) (lo mid hi p g2:Nat) (c:Pl.Mc) (x:Pl.In) (h:MAt w lo mid hi p g2 c) (G:Pl.GM c) (B:Pl.InB x) (hf:(c.read 2 x.m x.k x.e).fine=true) (ho:x.op=16) :
  Calls prog 113 #[.pointer (some ⟨p,0,none⟩),.agg (inX x)] w fun e w'=>e=.returned (.tuple #[])∧∃g3,MAt w' lo mid hi p g3 (c.product x)∧Since w lo hi g2 w' g3:=by
 have HG:=hide G
 have HI:=hide B
 have HE2:Pl.okv 2 x.e=true:=by have:=B.e0;have:=B.e1;simp [Pl.okv,Pl.top];omega
 have HV:=hide (Pl.di (z:=2) (m:=x.m) G (.inr rfl) B.k0 B.k1 B.e0 B.e1 (fun _=>rfl) (fun _=>HE2))
 clear HE2
 have HG1:=hide (G.read (z:=2) (m:=x.m) (.inr rfl) B.k0 B.k1 B.e0 B.e1)
 have HOP:=hide ho
 clear ho
 have hl:=h.lo
 obtain ⟨X,hX,KA,HX,hbw,HHB,HGB,HPH,HPB,HMH,HS,HM⟩:=h.dL x
 obtain ⟨b0,b1,b2,b3,b4,b5,b6⟩:=aF HX.o
 rw [HOP.o] at b0
 clear h
 obtain ⟨gd,cd,ga,ca,g1,c1,c2,HB,HO⟩:=HM.o.op
 clear G B
 obtain ⟨d,hd⟩:∃d,c.read 2 x.m x.k x.e=d:=⟨_,rfl⟩
 obtain ⟨v,hv⟩:∃v,c.aY 2 x.m x.k x.e=v:=⟨_,rfl⟩
 have E:Hid (c.product x=d.jm x v):=hide (by unfold Pl.Mc.product;rw [hf,hd,hv];rfl)
 have HRD:=fun w9 h9=>jJ w9 lo mid hi p g2 c 2 x.m x.k x.e h9 HG.o (.inr rfl) HI.o.k0 HI.o.k1 HI.o.e0 HI.o.e1 HI.o.m0 HI.o.m1
 rw [hd] at hf HG1
 rw [hv] at HV
 simp only [hd,hv] at HRD
 clear hd hv
 have r0:=HI.o.r0
 have r1:=HI.o.r1
 have r4:x.r<4:=by omega
 have HR4:Hid (x.r.toNat<4):=hide (by omega)
 obtain ⟨D,hD⟩:∃D,el d.r.xs x.r.toNat=D:=⟨_,rfl⟩
 have hDb:=HG1.o.g.dw x.r.toNat HR4.o
 rw [hD] at hDb
 obtain ⟨hD0,hD1⟩:=hDb
 have HDD:=hide hD
 clear hD
 have hvb:=Pl.aP HV.o
 have hv0:0≤v:=hvb.2.1
 have hv1:v≤65535:=by have:=hvb.2.2;simp [Pl.top] at this;omega
 clear hvb
 obtain ⟨Q,hQ⟩:∃Q,D*v=Q:=⟨_,rfl⟩
 have hQ0:0≤D*v:=Int.mul_nonneg hD0 hv0
 have hQ1:D*v≤65535*65535:=Int.mul_le_mul hD1 hv1 hv0 (by decide)
 have E2:Hid (d.jm x v=d.II x Q):=hide (by unfold Pl.Mc.jm;rw [HOP.o,HDD.o,hQ];rfl)
 have HVQ:Hid (Pl.okv 2 (Q%65536)=true):=hide (by simp [Pl.okv,Pl.top];omega)
 have hm:=lX Q
 have hg9:(decide (65535<Q))=decide (65535<Q):=rfl
 go_enter func113,ntmps113
 go_wp2_with (first|(go_at_call 103;refine (HRD _ HM.o).mono ?_;rintro e9 W_1 ⟨rfl,aT,hm9,hb9⟩;obtain ⟨bg,bY,bI⟩:=hb9.nx HX HHB HGB HS;clear hb9;have aW:=hide hm9;obtain ⟨bQ,bU,bT,bV,eu,eP,eG,aX,bu⟩:=hm9.op;have lS:=aX.o.k0;clear b0 b1 b2 b3 b4 b5 b6;obtain ⟨b0,b1,b2,b3,b4,b5,b6⟩:=aF bg.o;rw [HOP.o] at b0;obtain ⟨hc,_⟩:=jH bu.o.d x.r.toNat (by rw [HG1.o.g.d4];exact HR4.o);rw [HDD.o] at hc)|(go_at_call 68;refine st (bK _ lo mid hi p aT _ aW.o) ?_;rw [hf]))
 go_region
 have HMD:=hide (aW.o.any (ae (Kept.refl 0 0 W_1)))
 have HX_D:=hide (bg.o.af (ae (Kept.refl 0 0 W_1)))
 have HGB_D:=bY
 have HS_D:=hide bI.o.drew
 go_wp2_with (go_at_call 152;refine (Du _ lo mid hi p aT d 2 x.r (Q%65536) HMD.o HG1.o HI.o.r0 HI.o.r1 HVQ.o).mono ?_;rintro e9 W_2 ⟨rfl,kV,hm9,hb9⟩;obtain ⟨dM,qj,gX⟩:=hb9.nx HX_D HHB HGB_D HS_D;clear hb9;have gZ:=hide hm9;obtain ⟨wG,wJ,wH,wK,xY,yI,yH,aN,iq⟩:=hm9.op;have rZ:=aN.o.k4;have sZ:=aN.o.frozen 4;clear b0 b1 b2 b3 b4 b5 b6;obtain ⟨b0,b1,b2,b3,b4,b5,b6⟩:=aF dM.o)
 go_region_with (go_at_call 146;refine st (dC _ _ _) ?_)
 all_goals
  go_wp2_with fail
  first|go_end0|refine bodyPost_ret (results_none rfl _ _ _) rfl ?_
  exact ⟨rfl,kV,by rw [E.o,E2.o];exact (gZ.o.cF _).drew,(gX.o.set p 4 _ HPH.o).drew⟩
theorem Bg (w:World) (lo mid hi p g2:Nat) (c:Pl.Mc) (x:Pl.In) (h:MAt w lo mid hi p g2 c) (G:Pl.GM c) (B:Pl.InB x) (hf:(c.read 2 x.m x.k x.e).fine=true) (ho:x.op=17) (hq:(c.aY 2 x.m x.k x.e==0)=true) :
  Calls prog 113 #[.pointer (some ⟨p,0,none⟩),.agg (inX x)] w fun e w'=>e=.returned (.tuple #[])∧∃g3,MAt w' lo mid hi p g3 (c.product x)∧Since w lo hi g2 w' g3:=by
 have HG:=hide G
 have HI:=hide B
 have HE2:Pl.okv 2 x.e=true:=by have:=B.e0;have:=B.e1;simp [Pl.okv,Pl.top];omega
 have HV:=hide (Pl.di (z:=2) (m:=x.m) G (.inr rfl) B.k0 B.k1 B.e0 B.e1 (fun _=>rfl) (fun _=>HE2))
 clear HE2
 have HG1:=hide (G.read (z:=2) (m:=x.m) (.inr rfl) B.k0 B.k1 B.e0 B.e1)
 have HOP:=hide ho
 clear ho
 have hl:=h.lo
 obtain ⟨X,hX,KA,HX,hbw,HHB,HGB,HPH,HPB,HMH,HS,HM⟩:=h.dL x
 obtain ⟨b0,b1,b2,b3,b4,b5,b6⟩:=aF HX.o
 rw [HOP.o] at b0
 clear h
 obtain ⟨gd,cd,ga,ca,g1,c1,c2,HB,HO⟩:=HM.o.op
 clear G B
 obtain ⟨d,hd⟩:∃d,c.read 2 x.m x.k x.e=d:=⟨_,rfl⟩
 obtain ⟨v,hv⟩:∃v,c.aY 2 x.m x.k x.e=v:=⟨_,rfl⟩
 have E:Hid (c.product x=d.jm x v):=hide (by unfold Pl.Mc.product;rw [hf,hd,hv];rfl)
 have HRD:=fun w9 h9=>jJ w9 lo mid hi p g2 c 2 x.m x.k x.e h9 HG.o (.inr rfl) HI.o.k0 HI.o.k1 HI.o.e0 HI.o.e1 HI.o.m0 HI.o.m1
 rw [hd] at hf HG1
 rw [hv] at HV hq
 simp only [hd,hv] at HRD
 clear hd hv
 have r0:=HI.o.r0
 have r1:=HI.o.r1
 have r4:x.r<4:=by omega
 have HR4:Hid (x.r.toNat<4):=hide (by omega)
 obtain ⟨D,hD⟩:∃D,el d.r.xs x.r.toNat=D:=⟨_,rfl⟩
 have hDb:=HG1.o.g.dw x.r.toNat HR4.o
 rw [hD] at hDb
 obtain ⟨hD0,hD1⟩:=hDb
 have HDD:=hide hD
 clear hD
 have hvb:=Pl.aP HV.o
 have hv0:0≤v:=hvb.2.1
 have hv1:v≤65535:=by have:=hvb.2.2;simp [Pl.top] at this;omega
 clear hvb
 have E2:Hid (d.jm x v=d.raise 5):=hide (by unfold Pl.Mc.jm;rw [HOP.o,hq];rfl)
 go_enter func113,ntmps113
 go_wp2_with (first|(go_at_call 103;refine (HRD _ HM.o).mono ?_;rintro e9 W_1 ⟨rfl,aT,hm9,hb9⟩;obtain ⟨bg,bY,bI⟩:=hb9.nx HX HHB HGB HS;clear hb9;have aW:=hide hm9;obtain ⟨bQ,bU,bT,bV,eu,eP,eG,aX,bu⟩:=hm9.op;have lS:=aX.o.k0;clear b0 b1 b2 b3 b4 b5 b6;obtain ⟨b0,b1,b2,b3,b4,b5,b6⟩:=aF bg.o;rw [HOP.o] at b0;obtain ⟨hc,_⟩:=jH bu.o.d x.r.toNat (by rw [HG1.o.g.d4];exact HR4.o);rw [HDD.o] at hc)|(go_at_call 68;refine st (bK _ lo mid hi p aT _ aW.o) ?_;rw [hf]))
 go_region
 have HMD:=hide (aW.o.any (ae (Kept.refl 0 0 W_1)))
 have HX_D:=hide (bg.o.af (ae (Kept.refl 0 0 W_1)))
 have HGB_D:=bY
 have HS_D:=hide bI.o.drew
 go_wp2_with (go_at_call 150;refine (Ja _ lo mid hi p aT d 5 HMD.o).mono ?_;rintro e9 W_2 ⟨rfl,kV,hm9,hb9⟩;obtain ⟨dM,qj,gX⟩:=hb9.nx HX_D HHB HGB_D HS_D;clear hb9;have gZ:=hide hm9;obtain ⟨wG,wJ,wH,wK,xY,yI,yH,aN,iq⟩:=hm9.op;clear b0 b1 b2 b3 b4 b5 b6;obtain ⟨b0,b1,b2,b3,b4,b5,b6⟩:=aF dM.o;rw [HOP.o] at b0)
 first|go_end0|refine bodyPost_ret (results_none rfl _ _ _) rfl ?_
 exact ⟨rfl,kV,by rw [E.o,E2.o];exact gZ.o,gX.o⟩
theorem EW (w:World) (lo mid hi p g2:Nat) (c:Pl.Mc) (x:Pl.In) (h:MAt w lo mid hi p g2 c) (G:Pl.GM c) (B:Pl.InB x) (hf:(c.read 2 x.m x.k x.e).fine=true) (ho:x.op=17) (hq:(c.aY 2 x.m x.k x.e==0)=false) :
  Calls prog 113 #[.pointer (some ⟨p,0,none⟩),.agg (inX x)] w fun e w'=>e=.returned (.tuple #[])∧∃g3,MAt w' lo mid hi p g3 (c.product x)∧Since w lo hi g2 w' g3:=by
 have HG:=hide G
 have HI:=hide B
 have HE2:Pl.okv 2 x.e=true:=by have:=B.e0;have:=B.e1;simp [Pl.okv,Pl.top];omega
 have HV:=hide (Pl.di (z:=2) (m:=x.m) G (.inr rfl) B.k0 B.k1 B.e0 B.e1 (fun _=>rfl) (fun _=>HE2))
 clear HE2
 have HG1:=hide (G.read (z:=2) (m:=x.m) (.inr rfl) B.k0 B.k1 B.e0 B.e1)
 have HOP:=hide ho
 clear ho
 have hl:=h.lo
 obtain ⟨X,hX,KA,HX,hbw,HHB,HGB,HPH,HPB,HMH,HS,HM⟩:=h.dL x
 obtain ⟨b0,b1,b2,b3,b4,b5,b6⟩:=aF HX.o
 rw [HOP.o] at b0
 clear h
 obtain ⟨gd,cd,ga,ca,g1,c1,c2,HB,HO⟩:=HM.o.op
 clear G B
 obtain ⟨d,hd⟩:∃d,c.read 2 x.m x.k x.e=d:=⟨_,rfl⟩
 obtain ⟨v,hv⟩:∃v,c.aY 2 x.m x.k x.e=v:=⟨_,rfl⟩
 have E:Hid (c.product x=d.jm x v):=hide (by unfold Pl.Mc.product;rw [hf,hd,hv];rfl)
 have HRD:=fun w9 h9=>jJ w9 lo mid hi p g2 c 2 x.m x.k x.e h9 HG.o (.inr rfl) HI.o.k0 HI.o.k1 HI.o.e0 HI.o.e1 HI.o.m0 HI.o.m1
 rw [hd] at hf HG1
 rw [hv] at HV hq
 simp only [hd,hv] at HRD
 clear hd hv
 have r0:=HI.o.r0
 have r1:=HI.o.r1
 have r4:x.r<4:=by omega
 have HR4:Hid (x.r.toNat<4):=hide (by omega)
 obtain ⟨D,hD⟩:∃D,el d.r.xs x.r.toNat=D:=⟨_,rfl⟩
 have hDb:=HG1.o.g.dw x.r.toNat HR4.o
 rw [hD] at hDb
 obtain ⟨hD0,hD1⟩:=hDb
 have HDD:=hide hD
 clear hD
 have hvb:=Pl.aP HV.o
 have hv0:0≤v:=hvb.2.1
 have hv1:v≤65535:=by have:=hvb.2.2;simp [Pl.top] at this;omega
 clear hvb
 have E2:Hid (d.jm x v=d.data 2 x.r (D/v)):=hide (by unfold Pl.Mc.jm;rw [HOP.o,hq,HDD.o];rfl)
 have hvp:0<v:=by simp at hq;omega
 have hdiv:D.tdiv v=D/v:=Int.tdiv_eq_ediv_of_nonneg hD0
 have hd0:0≤D/v:=Int.ediv_nonneg hD0 hv0
 have hd1:D/v≤65535:=Int.le_trans (Int.ediv_le_self v hD0) hD1
 have HVQ:Hid (Pl.okv 2 (D/v)=true):=hide (by generalize D/v=N at hd0 hd1;simp [Pl.okv,Pl.top];omega)
 go_enter func113,ntmps113
 go_wp2_with (first|(go_at_call 103;refine (HRD _ HM.o).mono ?_;rintro e9 W_1 ⟨rfl,aT,hm9,hb9⟩;obtain ⟨bg,bY,bI⟩:=hb9.nx HX HHB HGB HS;clear hb9;have aW:=hide hm9;obtain ⟨bQ,bU,bT,bV,eu,eP,eG,aX,bu⟩:=hm9.op;have lS:=aX.o.k0;clear b0 b1 b2 b3 b4 b5 b6;obtain ⟨b0,b1,b2,b3,b4,b5,b6⟩:=aF bg.o;rw [HOP.o] at b0;obtain ⟨hc,_⟩:=jH bu.o.d x.r.toNat (by rw [HG1.o.g.d4];exact HR4.o);rw [HDD.o] at hc)|(go_at_call 68;refine st (bK _ lo mid hi p aT _ aW.o) ?_;rw [hf]))
 go_region
 have HMD:=hide ((aW.o.any (ae (Kept.refl 0 0 W_1))).any (ae (Kept.refl 0 0 W_1.drew)))
 have HX_D:=hide ((bg.o.af (ae (Kept.refl 0 0 W_1))).af (ae (Kept.refl 0 0 W_1.drew)))
 have HGB_D:=bY
 have HS_D:=hide bI.o.drew.drew
 go_wp2_with fail
 go_region_with (go_at_call 152;refine (Du _ lo mid hi p aT d 2 x.r (D/v) HMD.o HG1.o HI.o.r0 HI.o.r1 HVQ.o).mono ?_;rintro e9 W_2 ⟨rfl,kV,hm9,hb9⟩;obtain ⟨dM,qj,gX⟩:=hb9.nx HX_D HHB HGB_D HS_D;clear hb9;have gZ:=hide hm9;obtain ⟨wG,wJ,wH,wK,xY,yI,yH,aN,iq⟩:=hm9.op;clear b0 b1 b2 b3 b4 b5 b6;obtain ⟨b0,b1,b2,b3,b4,b5,b6⟩:=aF dM.o;rw [HOP.o] at b0)
 all_goals
  go_wp2_with fail
  first|go_end0|refine bodyPost_ret (results_none rfl _ _ _) rfl ?_
  exact ⟨rfl,kV,by rw [E.o,E2.o];exact gZ.o,gX.o⟩
theorem zu (w:World) (lo mid hi p g2:Nat) (c:Pl.Mc) (x:Pl.In) (h:MAt w lo mid hi p g2 c) (G:Pl.GM c) (B:Pl.InB x) (ho:x.op=16∨x.op=17) :
  Calls prog 113 #[.pointer (some ⟨p,0,none⟩),.agg (inX x)] w fun e w'=>e=.returned (.tuple #[])∧∃g3,MAt w' lo mid hi p g3 (c.product x)∧Since w lo hi g2 w' g3:=by
 cases hf:(c.read 2 x.m x.k x.e).fine
 ·exact Jb w lo mid hi p g2 c x h G B hf
 ·rcases ho with ho|ho
  ·exact EU w lo mid hi p g2 c x h G B hf ho
  ·cases hq:(c.aY 2 x.m x.k x.e==0)
   ·exact EW w lo mid hi p g2 c x h G B hf ho hq
   ·exact Bg w lo mid hi p g2 c x h G B hf ho hq
theorem Oa (w:World) (lo mid hi p g2:Nat) (c:Pl.Mc) (x:Pl.In) (h:MAt w lo mid hi p g2 c) (G:Pl.GM c) (B:Pl.InB x) (hm:x.m=0∨x.m=2∨x.m=3∨x.m=4∨x.m=5∨x.m=6) (hs:(x.s==0)=false) (hf:(c.read x.z x.m x.k x.e).fine=false) :
  Calls prog 108 #[.pointer (some ⟨p,0,none⟩),.agg (inX x)] w fun e w'=>e=.returned (.tuple #[])∧∃g3,MAt w' lo mid hi p g3 (c.one x)∧Since w lo hi g2 w' g3:=by
 have HG:=hide G
 have HI:=hide B
 have E:Hid (c.one x=c.read x.z x.m x.k x.e):=hide (by unfold Pl.Mc.one;rw [hs,hf];rfl)
 have hl:=h.lo
 obtain ⟨X,hX,KA,HX,hbw,HHB,HGB,HPH,HPB,HMH,HS,HM⟩:=h.dL x
 obtain ⟨b0,b1,b2,b3,b4,b5,b6⟩:=aF HX.o
 clear h
 obtain ⟨gd,cd,ga,ca,g1,c1,c2,HB,HO⟩:=HM.o.op
 clear G B hm
 go_enter func108,ntmps108
 go_wp2_with (first|(go_at_call 103;refine (jJ _ lo mid hi p g2 c x.z x.m x.k x.e HM.o HG.o HI.o.z HI.o.k0 HI.o.k1 HI.o.e0 HI.o.e1 HI.o.m0 HI.o.m1).mono ?_;rintro e9 W_1 ⟨rfl,aT,hm9,hb9⟩;obtain ⟨bg,bY,bI⟩:=hb9.nx HX HHB HGB HS;clear hb9;have aW:=hide hm9;obtain ⟨bQ,bU,bT,bV,eu,eP,eG,aX,bu⟩:=hm9.op;clear b0 b1 b2 b3 b4 b5 b6;obtain ⟨b0,b1,b2,b3,b4,b5,b6⟩:=aF bg.o)|(go_at_call 68;refine st (bK _ lo mid hi p aT _ aW.o) ?_;rw [hf]))
 first|go_end0|refine bodyPost_ret (results_none rfl _ _ _) rfl ?_
 exact ⟨rfl,aT,by rw [E.o];exact aW.o,bI.o⟩
theorem E5 (w:World) (lo mid hi p g2:Nat) (c:Pl.Mc) (x:Pl.In) (h:MAt w lo mid hi p g2 c) (G:Pl.GM c) (B:Pl.InB x) (hm:x.m=0∨x.m=2∨x.m=3∨x.m=4∨x.m=5∨x.m=6) (hs:x.s=3) (hf:(c.read x.z x.m x.k x.e).fine=true) :
  Calls prog 108 #[.pointer (some ⟨p,0,none⟩),.agg (inX x)] w fun e w'=>e=.returned (.tuple #[])∧∃g3,MAt w' lo mid hi p g3 (c.one x)∧Since w lo hi g2 w' g3:=by
 have HG:=hide G
 have HI:=hide B
 have HMM:=hide hm
 have HSU:=hide hs
 clear hs
 have hl:=h.lo
 obtain ⟨X,hX,KA,HX,hbw,HHB,HGB,HPH,HPB,HMH,HS,HM⟩:=h.dL x
 obtain ⟨b0,b1,b2,b3,b4,b5,b6⟩:=aF HX.o
 rw [HSU.o] at b6
 clear h
 obtain ⟨gd,cd,ga,ca,g1,c1,c2,HB,HO⟩:=HM.o.op
 clear G B hm
 have HV:=hide (Pl.di (m:=x.m) HG.o HI.o.z HI.o.k0 HI.o.k1 HI.o.e0 HI.o.e1 (fun q=>absurd q (by have:=HMM.o;omega)) HI.o.n7)
 have HG1:=hide (HG.o.read (m:=x.m) HI.o.z HI.o.k0 HI.o.k1 HI.o.e0 HI.o.e1)
 have HFR:=Pl.xC c x.z x.m x.k x.e
 have HAA:0≤c.readA x.z x.m x.k x.e∧c.readA x.z x.m x.k x.e≤65535:=by
  unfold Pl.Mc.readA
  cases Pl.Mc.gI x.m
  ·exact Pl.iM HG.o.g HI.o.k0 HI.o.k1 HI.o.e0 HI.o.e1
  ·exact ⟨Int.le_refl 0,(by decide:(0:Int)≤65535)⟩
 have HRD:=fun w9 h9=>jJ w9 lo mid hi p g2 c x.z x.m x.k x.e h9 HG.o HI.o.z HI.o.k0 HI.o.k1 HI.o.e0 HI.o.e1 HI.o.m0 HI.o.m1
 obtain ⟨d,hd⟩:∃d,c.read x.z x.m x.k x.e=d:=⟨_,rfl⟩
 obtain ⟨v,hv⟩:∃v,c.aY x.z x.m x.k x.e=v:=⟨_,rfl⟩
 obtain ⟨a,hA⟩:∃a,c.readA x.z x.m x.k x.e=a:=⟨_,rfl⟩
 have E:Hid (c.one x=c.one' d x a v):=hide (by unfold Pl.Mc.one;rw [HSU.o,hf,hd,hv,hA];rfl)
 rw [hd] at hf HG1 HFR
 rw [hv] at HV
 rw [hA] at HAA
 simp only [hd,hv,hA] at HRD
 clear hd hv hA
 have HFE:=hide HFR
 have HA0:=hide HAA.1
 have HA1:=hide HAA.2
 have HF:=hide (Pl.bG HG1.o)
 clear HFR HAA
 have E2:Hid (c.one' d x a v=d.aB (Pl.aQ x.z d.r.f v)):=hide (by unfold Pl.Mc.one';rw [HSU.o,HFE.o];rfl)
 go_enter func108,ntmps108
 go_wp2_with (first|(go_at_call 103;refine (HRD _ HM.o).mono ?_;rintro e9 W_1 ⟨rfl,aT,hm9,hb9⟩;obtain ⟨bg,bY,bI⟩:=hb9.nx HX HHB HGB HS;clear hb9;have aW:=hide hm9;obtain ⟨bQ,bU,bT,bV,eu,eP,eG,aX,bu⟩:=hm9.op;obtain ⟨lS,kW,oC,kC,oz,ou,oh,og⟩:=aX.o.c8;clear b0 b1 b2 b3 b4 b5 b6;obtain ⟨b0,b1,b2,b3,b4,b5,b6⟩:=aF bg.o;rw [HSU.o] at b6)|(go_at_call 68;refine st (bK _ lo mid hi p aT _ aW.o) ?_;rw [hf]))
 have KD:=hide (ae (Kept.refl 0 0 W_1))
 have HM_D:=hide (aW.o.any KD.o)
 have HB_D:=hide (aX.o.any KD.o)
 have HO_D:=hide (bu.o.any KD.o)
 have HX_D:=hide (bg.o.af KD.o)
 have HS_D:=hide (bI.o.any KD.o)
 obtain ⟨t0_D,t1_D,t2_D,t3_D,t4_D,t5_D,t6_D,t7_D,t8_D,t9_D,t10_D,t11_D,t12_D,t13_D,t14_D,t15_D⟩:=HB_D.o.cells
 clear t0_D t1_D t2_D t3_D t5_D t6_D t7_D t8_D t9_D t10_D t11_D t12_D t13_D t14_D t15_D
 have f4_D:=HB_D.o.frozen 4
 clear b0 b1 b2 b3 b4 b5 b6
 obtain ⟨b0,b1,b2,b3,b4,b5,b6⟩:=aF HX_D.o
 rw [HSU.o] at b6
 have HGB_D:=bY
 have SD:=cellsS HB_D.o HX_D.o
 go_region_held3 (fun w'=>w'.cell? ⟨p,0,none⟩=some (.slice (some ⟨bQ,0,none⟩) 4 bU)∧w'.cell? ⟨p,1,none⟩=some (.slice (some ⟨bT,0,none⟩) 4 bV)∧w'.cell? ⟨p,2,none⟩=some (iv d.r.o)∧w'.cell? ⟨p,3,none⟩=some (iv d.r.p)∧w'.cell? ⟨p,4,none⟩=some (iv d.r.f)∧w'.cell? ⟨p,5,none⟩=some (iv d.r.m)∧w'.cell? ⟨p,6,none⟩=some (.bool d.r.s)∧w'.cell? ⟨p,7,none⟩=some (.bool d.r.t)∧w'.cell? ⟨w.heap.size,1,none⟩=some (iv x.z)∧w'.cell? ⟨w.heap.size,2,none⟩=some (iv x.r)) (first|with_reducible exact SD|go_keep) (first|(go_at_call 107;refine st (gG (v:=v) _ HV.o HF.o) ?_))
 go_wp2_with fail
 first|go_end0|refine bodyPost_ret (results_none rfl _ _ _) rfl ?_
 exact ⟨rfl,aT,by rw [E.o,E2.o];exact HM_D.o.cF _,HS_D.o.set p 4 _ HPH.o⟩
theorem Jd (w:World) (lo mid hi p g2:Nat) (c:Pl.Mc) (x:Pl.In) (h:MAt w lo mid hi p g2 c) (G:Pl.GM c) (B:Pl.InB x) (hm:x.m=0∨x.m=2∨x.m=3∨x.m=4∨x.m=5∨x.m=6) (hs:x.s=1) (hf:(c.read x.z x.m x.k x.e).fine=true) :
  Calls prog 108 #[.pointer (some ⟨p,0,none⟩),.agg (inX x)] w fun e w'=>e=.returned (.tuple #[])∧∃g3,MAt w' lo mid hi p g3 (c.one x)∧Since w lo hi g2 w' g3:=by
 have HG:=hide G
 have HI:=hide B
 have HMM:=hide hm
 have HSU:=hide hs
 clear hs
 have hl:=h.lo
 obtain ⟨X,hX,KA,HX,hbw,HHB,HGB,HPH,HPB,HMH,HS,HM⟩:=h.dL x
 obtain ⟨b0,b1,b2,b3,b4,b5,b6⟩:=aF HX.o
 rw [HSU.o] at b6
 clear h
 obtain ⟨gd,cd,ga,ca,g1,c1,c2,HB,HO⟩:=HM.o.op
 clear G B hm
 have HV:=hide (Pl.di (m:=x.m) HG.o HI.o.z HI.o.k0 HI.o.k1 HI.o.e0 HI.o.e1 (fun q=>absurd q (by have:=HMM.o;omega)) HI.o.n7)
 have HG1:=hide (HG.o.read (m:=x.m) HI.o.z HI.o.k0 HI.o.k1 HI.o.e0 HI.o.e1)
 have HFR:=Pl.xC c x.z x.m x.k x.e
 have HAA:0≤c.readA x.z x.m x.k x.e∧c.readA x.z x.m x.k x.e≤65535:=by
  unfold Pl.Mc.readA
  cases Pl.Mc.gI x.m
  ·exact Pl.iM HG.o.g HI.o.k0 HI.o.k1 HI.o.e0 HI.o.e1
  ·exact ⟨Int.le_refl 0,(by decide:(0:Int)≤65535)⟩
 have HRD:=fun w9 h9=>jJ w9 lo mid hi p g2 c x.z x.m x.k x.e h9 HG.o HI.o.z HI.o.k0 HI.o.k1 HI.o.e0 HI.o.e1 HI.o.m0 HI.o.m1
 obtain ⟨d,hd⟩:∃d,c.read x.z x.m x.k x.e=d:=⟨_,rfl⟩
 obtain ⟨v,hv⟩:∃v,c.aY x.z x.m x.k x.e=v:=⟨_,rfl⟩
 obtain ⟨a,hA⟩:∃a,c.readA x.z x.m x.k x.e=a:=⟨_,rfl⟩
 have E:Hid (c.one x=c.one' d x a v):=hide (by unfold Pl.Mc.one;rw [HSU.o,hf,hd,hv,hA];rfl)
 rw [hd] at hf HG1 HFR
 rw [hv] at HV
 rw [hA] at HAA
 simp only [hd,hv,hA] at HRD
 clear hd hv hA
 have HFE:=hide HFR
 have HA0:=hide HAA.1
 have HA1:=hide HAA.2
 have HF:=hide (Pl.bG HG1.o)
 clear HFR HAA
 have E2:Hid (c.one' d x a v=(d.write x.z x.m x.k a (Pl.kQ x.z 0 0 v)).aB (Pl.gz x.z 0 0 v)):=hide (by unfold Pl.Mc.one';rw [HSU.o];rfl)
 have HZ0:Hid (Pl.okv x.z 0=true):=hide (by rcases HI.o.z with q|q<;>rw [q]<;>decide)
 have HVV:Hid (Pl.okv x.z (Pl.kQ x.z 0 0 v)=true):=hide (Pl.mP HI.o.z)
 go_enter func108,ntmps108
 go_wp2_with (first|(go_at_call 103;refine (HRD _ HM.o).mono ?_;rintro e9 W_1 ⟨rfl,aT,hm9,hb9⟩;obtain ⟨bg,bY,bI⟩:=hb9.nx HX HHB HGB HS;clear hb9;have aW:=hide hm9;obtain ⟨bQ,bU,bT,bV,eu,eP,eG,aX,bu⟩:=hm9.op;obtain ⟨lS,kW,oC,kC,oz,ou,oh,og⟩:=aX.o.c8;clear b0 b1 b2 b3 b4 b5 b6;obtain ⟨b0,b1,b2,b3,b4,b5,b6⟩:=aF bg.o;rw [HSU.o] at b6)|(go_at_call 68;refine st (bK _ lo mid hi p aT _ aW.o) ?_;rw [hf]))
 have KD:=hide (ae (Kept.refl 0 0 W_1))
 have HM_D:=hide (aW.o.any KD.o)
 have HB_D:=hide (aX.o.any KD.o)
 have HO_D:=hide (bu.o.any KD.o)
 have HX_D:=hide (bg.o.af KD.o)
 have HS_D:=hide (bI.o.any KD.o)
 obtain ⟨t0_D,t1_D,t2_D,t3_D,t4_D,t5_D,t6_D,t7_D,t8_D,t9_D,t10_D,t11_D,t12_D,t13_D,t14_D,t15_D⟩:=HB_D.o.cells
 clear t0_D t1_D t2_D t3_D t5_D t6_D t7_D t8_D t9_D t10_D t11_D t12_D t13_D t14_D t15_D
 have f4_D:=HB_D.o.frozen 4
 clear b0 b1 b2 b3 b4 b5 b6
 obtain ⟨b0,b1,b2,b3,b4,b5,b6⟩:=aF HX_D.o
 rw [HSU.o] at b6
 have HGB_D:=bY
 have SD:=cellsS HB_D.o HX_D.o
 go_region_held3 (fun w'=>w'.cell? ⟨p,0,none⟩=some (.slice (some ⟨bQ,0,none⟩) 4 bU)∧w'.cell? ⟨p,1,none⟩=some (.slice (some ⟨bT,0,none⟩) 4 bV)∧w'.cell? ⟨p,2,none⟩=some (iv d.r.o)∧w'.cell? ⟨p,3,none⟩=some (iv d.r.p)∧w'.cell? ⟨p,4,none⟩=some (iv d.r.f)∧w'.cell? ⟨p,5,none⟩=some (iv d.r.m)∧w'.cell? ⟨p,6,none⟩=some (.bool d.r.s)∧w'.cell? ⟨p,7,none⟩=some (.bool d.r.t)∧w'.cell? ⟨w.heap.size,1,none⟩=some (iv x.z)∧w'.cell? ⟨w.heap.size,2,none⟩=some (iv x.r)) (first|with_reducible exact SD|go_keep) (first|(go_at_call 107;refine st (gG (v:=v) _ HV.o HF.o) ?_))
 go_wp2_with (first|(go_at_call 145;refine st (xP _ _ _ _ _ (Pl.uK HZ0.o HV.o)) ?_)|(go_at_call 106;refine (xO _ lo mid hi p aT d x.z x.m x.k x.e a (Pl.kQ x.z 0 0 v) HM_D.o HG1.o HI.o.k0 HI.o.k1 HA0.o HA1.o HVV.o).mono ?_;rintro e9 W_2 ⟨rfl,kV,hm9,hb9⟩;obtain ⟨dM,qj,gX⟩:=hb9.nx HX_D HHB HGB_D HS_D;clear hb9;have gZ:=hide hm9;obtain ⟨wG,wJ,wH,wK,xY,yI,yH,aN,iq⟩:=hm9.op;have rZ:=aN.o.k4;have sZ:=aN.o.frozen 4;clear b0 b1 b2 b3 b4 b5 b6;obtain ⟨b0,b1,b2,b3,b4,b5,b6⟩:=aF dM.o;rw [HSU.o] at b6))
 first|go_end0|refine bodyPost_ret (results_none rfl _ _ _) rfl ?_
 exact ⟨rfl,kV,by rw [E.o,E2.o];exact gZ.o.cF _,gX.o.set p 4 _ HPH.o⟩
theorem Jc (w:World) (lo mid hi p g2:Nat) (c:Pl.Mc) (x:Pl.In) (h:MAt w lo mid hi p g2 c) (G:Pl.GM c) (B:Pl.InB x) (hm:x.m=0∨x.m=2∨x.m=3∨x.m=4∨x.m=5∨x.m=6) (hs:x.s=2) (hf:(c.read x.z x.m x.k x.e).fine=true) :
  Calls prog 108 #[.pointer (some ⟨p,0,none⟩),.agg (inX x)] w fun e w'=>e=.returned (.tuple #[])∧∃g3,MAt w' lo mid hi p g3 (c.one x)∧Since w lo hi g2 w' g3:=by
 have HG:=hide G
 have HI:=hide B
 have HMM:=hide hm
 have HSU:=hide hs
 clear hs
 have hl:=h.lo
 obtain ⟨X,hX,KA,HX,hbw,HHB,HGB,HPH,HPB,HMH,HS,HM⟩:=h.dL x
 obtain ⟨b0,b1,b2,b3,b4,b5,b6⟩:=aF HX.o
 rw [HSU.o] at b6
 clear h
 obtain ⟨gd,cd,ga,ca,g1,c1,c2,HB,HO⟩:=HM.o.op
 clear G B hm
 have HV:=hide (Pl.di (m:=x.m) HG.o HI.o.z HI.o.k0 HI.o.k1 HI.o.e0 HI.o.e1 (fun q=>absurd q (by have:=HMM.o;omega)) HI.o.n7)
 have HG1:=hide (HG.o.read (m:=x.m) HI.o.z HI.o.k0 HI.o.k1 HI.o.e0 HI.o.e1)
 have HFR:=Pl.xC c x.z x.m x.k x.e
 have HAA:0≤c.readA x.z x.m x.k x.e∧c.readA x.z x.m x.k x.e≤65535:=by
  unfold Pl.Mc.readA
  cases Pl.Mc.gI x.m
  ·exact Pl.iM HG.o.g HI.o.k0 HI.o.k1 HI.o.e0 HI.o.e1
  ·exact ⟨Int.le_refl 0,(by decide:(0:Int)≤65535)⟩
 have HRD:=fun w9 h9=>jJ w9 lo mid hi p g2 c x.z x.m x.k x.e h9 HG.o HI.o.z HI.o.k0 HI.o.k1 HI.o.e0 HI.o.e1 HI.o.m0 HI.o.m1
 obtain ⟨d,hd⟩:∃d,c.read x.z x.m x.k x.e=d:=⟨_,rfl⟩
 obtain ⟨v,hv⟩:∃v,c.aY x.z x.m x.k x.e=v:=⟨_,rfl⟩
 obtain ⟨a,hA⟩:∃a,c.readA x.z x.m x.k x.e=a:=⟨_,rfl⟩
 have E:Hid (c.one x=c.one' d x a v):=hide (by unfold Pl.Mc.one;rw [HSU.o,hf,hd,hv,hA];rfl)
 rw [hd] at hf HG1 HFR
 rw [hv] at HV
 rw [hA] at HAA
 simp only [hd,hv,hA] at HRD
 clear hd hv hA
 have HFE:=hide HFR
 have HA0:=hide HAA.1
 have HA1:=hide HAA.2
 have HF:=hide (Pl.bG HG1.o)
 clear HFR HAA
 have E2:Hid (c.one' d x a v=(d.write x.z x.m x.k a (Pl.top x.z-1-v)).aB (Pl.aQ x.z d.r.f (Pl.top x.z-1-v))):=hide (by unfold Pl.Mc.one';rw [HSU.o,HFE.o];rfl)
 have ht:=Pl.aP HV.o
 have ht0:256≤Pl.top x.z:=by omega
 have ht1:Pl.top x.z≤65536:=by omega
 obtain ⟨_,hv0,hv1⟩:=ht
 have HVV:Hid (Pl.okv x.z (Pl.top x.z-1-v)=true):=hide (by unfold Pl.okv;simp only [Bool.and_eq_true,Bool.or_eq_true,decide_eq_true_eq];exact ⟨HI.o.z,by omega,by omega⟩)
 go_enter func108,ntmps108
 go_wp2_with (first|(go_at_call 103;refine (HRD _ HM.o).mono ?_;rintro e9 W_1 ⟨rfl,aT,hm9,hb9⟩;obtain ⟨bg,bY,bI⟩:=hb9.nx HX HHB HGB HS;clear hb9;have aW:=hide hm9;obtain ⟨bQ,bU,bT,bV,eu,eP,eG,aX,bu⟩:=hm9.op;obtain ⟨lS,kW,oC,kC,oz,ou,oh,og⟩:=aX.o.c8;clear b0 b1 b2 b3 b4 b5 b6;obtain ⟨b0,b1,b2,b3,b4,b5,b6⟩:=aF bg.o;rw [HSU.o] at b6)|(go_at_call 68;refine st (bK _ lo mid hi p aT _ aW.o) ?_;rw [hf]))
 have KD:=hide (ae (Kept.refl 0 0 W_1))
 have HM_D:=hide (aW.o.any KD.o)
 have HB_D:=hide (aX.o.any KD.o)
 have HO_D:=hide (bu.o.any KD.o)
 have HX_D:=hide (bg.o.af KD.o)
 have HS_D:=hide (bI.o.any KD.o)
 obtain ⟨t0_D,t1_D,t2_D,t3_D,t4_D,t5_D,t6_D,t7_D,t8_D,t9_D,t10_D,t11_D,t12_D,t13_D,t14_D,t15_D⟩:=HB_D.o.cells
 clear t0_D t1_D t2_D t3_D t5_D t6_D t7_D t8_D t9_D t10_D t11_D t12_D t13_D t14_D t15_D
 have f4_D:=HB_D.o.frozen 4
 clear b0 b1 b2 b3 b4 b5 b6
 obtain ⟨b0,b1,b2,b3,b4,b5,b6⟩:=aF HX_D.o
 rw [HSU.o] at b6
 have HGB_D:=bY
 have SD:=cellsS HB_D.o HX_D.o
 go_region_held3 (fun w'=>w'.cell? ⟨p,0,none⟩=some (.slice (some ⟨bQ,0,none⟩) 4 bU)∧w'.cell? ⟨p,1,none⟩=some (.slice (some ⟨bT,0,none⟩) 4 bV)∧w'.cell? ⟨p,2,none⟩=some (iv d.r.o)∧w'.cell? ⟨p,3,none⟩=some (iv d.r.p)∧w'.cell? ⟨p,4,none⟩=some (iv d.r.f)∧w'.cell? ⟨p,5,none⟩=some (iv d.r.m)∧w'.cell? ⟨p,6,none⟩=some (.bool d.r.s)∧w'.cell? ⟨p,7,none⟩=some (.bool d.r.t)∧w'.cell? ⟨w.heap.size,1,none⟩=some (iv x.z)∧w'.cell? ⟨w.heap.size,2,none⟩=some (iv x.r)) (first|with_reducible exact SD|go_keep) (first|(go_at_call 107;refine st (gG (v:=v) _ HV.o HF.o) ?_))
 go_wp2_with (go_at_call 143;refine st (JJ x.z HI.o.z _) ?_)
 have KE:=hide (ae (Kept.refl 0 0 W_1.drew))
 have HM_E:=hide (HM_D.o.any KE.o)
 have HB_E:=hide (HB_D.o.any KE.o)
 have HO_E:=hide (HO_D.o.any KE.o)
 have HX_E:=hide (HX_D.o.af KE.o)
 have HS_E:=hide (HS_D.o.any KE.o)
 obtain ⟨t0_E,t1_E,t2_E,t3_E,t4_E,t5_E,t6_E,t7_E,t8_E,t9_E,t10_E,t11_E,t12_E,t13_E,t14_E,t15_E⟩:=HB_E.o.cells
 clear t0_E t1_E t2_E t3_E t5_E t6_E t7_E t8_E t9_E t10_E t11_E t12_E t13_E t14_E t15_E
 have f4_E:=HB_E.o.frozen 4
 clear b0 b1 b2 b3 b4 b5 b6
 obtain ⟨b0,b1,b2,b3,b4,b5,b6⟩:=aF HX_E.o
 rw [HSU.o] at b6
 have HGB_E:=HGB_D
 have SE:=cellsS HB_E.o HX_E.o
 go_region_held3 (fun w'=>w'.cell? ⟨p,0,none⟩=some (.slice (some ⟨bQ,0,none⟩) 4 bU)∧w'.cell? ⟨p,1,none⟩=some (.slice (some ⟨bT,0,none⟩) 4 bV)∧w'.cell? ⟨p,2,none⟩=some (iv d.r.o)∧w'.cell? ⟨p,3,none⟩=some (iv d.r.p)∧w'.cell? ⟨p,4,none⟩=some (iv d.r.f)∧w'.cell? ⟨p,5,none⟩=some (iv d.r.m)∧w'.cell? ⟨p,6,none⟩=some (.bool d.r.s)∧w'.cell? ⟨p,7,none⟩=some (.bool d.r.t)∧w'.cell? ⟨w.heap.size,1,none⟩=some (iv x.z)∧w'.cell? ⟨w.heap.size,2,none⟩=some (iv x.r)) (first|with_reducible exact SE|go_keep) (first|(go_at_call 107;refine st (gG (v:=Pl.top x.z-1-v) _ HVV.o HF.o) ?_))
 go_wp2_with (go_at_call 106;refine (xO _ lo mid hi p aT d x.z x.m x.k x.e a (Pl.top x.z-1-v) HM_E.o HG1.o HI.o.k0 HI.o.k1 HA0.o HA1.o HVV.o).mono ?_;rintro e9 W_2 ⟨rfl,kV,hm9,hb9⟩;obtain ⟨dM,qj,gX⟩:=hb9.nx HX_E HHB HGB_E HS_E;clear hb9;have gZ:=hide hm9;obtain ⟨wG,wJ,wH,wK,xY,yI,yH,aN,iq⟩:=hm9.op;have rZ:=aN.o.k4;have sZ:=aN.o.frozen 4;clear b0 b1 b2 b3 b4 b5 b6;obtain ⟨b0,b1,b2,b3,b4,b5,b6⟩:=aF dM.o;rw [HSU.o] at b6)
 first|go_end0|refine bodyPost_ret (results_none rfl _ _ _) rfl ?_
 exact ⟨rfl,kV,by rw [E.o,E2.o];exact gZ.o.cF _,gX.o.set p 4 _ HPH.o⟩
theorem EZ (w:World) (lo mid hi p g2:Nat) (c:Pl.Mc) (x:Pl.In) (h:MAt w lo mid hi p g2 c) (G:Pl.GM c) (B:Pl.InB x) (hm:x.m=0∨x.m=2∨x.m=3∨x.m=4∨x.m=5∨x.m=6) (hs:x.s=0) (hfc:c.fine=true) :
  Calls prog 108 #[.pointer (some ⟨p,0,none⟩),.agg (inX x)] w fun e w'=>e=.returned (.tuple #[])∧∃g3,MAt w' lo mid hi p g3 (c.one x)∧Since w lo hi g2 w' g3:=by
 have HG:=hide G
 have HI:=hide B
 have HMM:=hide hm
 have HSU:=hide hs
 clear hs
 have hl:=h.lo
 obtain ⟨X,hX,KA,HX,hbw,HHB,HGB,HPH,HPB,HMH,HS,HM⟩:=h.dL x
 obtain ⟨b0,b1,b2,b3,b4,b5,b6⟩:=aF HX.o
 rw [HSU.o] at b6
 clear h
 obtain ⟨gd,cd,ga,ca,g1,c1,c2,HB,HO⟩:=HM.o.op
 clear G B hm
 have HG1:=hide (HG.o.place (z:=x.z) (m:=x.m) (e:=x.e) HI.o.k0 HI.o.k1)
 have HFR:=Pl.xH c x.z x.m x.k x.e
 have HAA:=Pl.ql (z:=x.z) (m:=x.m) HG.o HI.o.k0 HI.o.k1 HI.o.e0 HI.o.e1
 have hf:(c.place x.z x.m x.k x.e).fine=true:=by
  rw [←hfc];unfold Pl.Mc.place;cases x.m==0<;>rfl
 have HRD:=fun w9 h9=>sQ w9 lo mid hi p g2 c x.z x.m x.k x.e h9 HG.o HI.o.k0 HI.o.k1 HI.o.e0 HI.o.e1 HMM.o
 have E2:c.IA x=((c.place x.z x.m x.k x.e).write x.z x.m x.k (c.iL x.z x.m x.k x.e) 0).aB (Pl.aQ x.z c.r.f 0):=rfl
 obtain ⟨d,hd⟩:∃d,c.place x.z x.m x.k x.e=d:=⟨_,rfl⟩
 obtain ⟨a,hA⟩:∃a,c.iL x.z x.m x.k x.e=a:=⟨_,rfl⟩
 have E:Hid (c.one x=c.IA x):=hide (by unfold Pl.Mc.one;rw [HSU.o];rfl)
 rw [hd] at hf HG1 HFR
 rw [hA] at HAA
 rw [hd,hA,←HFR] at E2
 have E2:=hide E2
 simp only [hd,hA] at HRD
 clear hd hA hfc
 have HA0:=hide HAA.1
 have HA1:=hide HAA.2
 have HF:=hide (Pl.bG HG1.o)
 have HZ0:Hid (Pl.okv x.z 0=true):=hide (by rcases HI.o.z with q|q<;>rw [q]<;>decide)
 clear HFR HAA
 go_enter func108,ntmps108
 go_wp2_with (first|(go_at_call 104;refine (HRD _ HM.o).mono ?_;rintro e9 W_1 ⟨rfl,aT,hm9,hb9⟩;obtain ⟨bg,bY,bI⟩:=hb9.nx HX HHB HGB HS;clear hb9;have aW:=hide hm9;obtain ⟨bQ,bU,bT,bV,eu,eP,eG,aX,bu⟩:=hm9.op;obtain ⟨lS,kW,oC,kC,oz,ou,oh,og⟩:=aX.o.c8;clear b0 b1 b2 b3 b4 b5 b6;obtain ⟨b0,b1,b2,b3,b4,b5,b6⟩:=aF bg.o;rw [HSU.o] at b6)|(go_at_call 68;refine st (bK _ lo mid hi p aT _ aW.o) ?_;rw [hf]))
 have KD:=hide (ae (Kept.refl 0 0 W_1))
 have HM_D:=hide (aW.o.any KD.o)
 have HB_D:=hide (aX.o.any KD.o)
 have HO_D:=hide (bu.o.any KD.o)
 have HX_D:=hide (bg.o.af KD.o)
 have HS_D:=hide (bI.o.any KD.o)
 obtain ⟨t0_D,t1_D,t2_D,t3_D,t4_D,t5_D,t6_D,t7_D,t8_D,t9_D,t10_D,t11_D,t12_D,t13_D,t14_D,t15_D⟩:=HB_D.o.cells
 clear t0_D t1_D t2_D t3_D t5_D t6_D t7_D t8_D t9_D t10_D t11_D t12_D t13_D t14_D t15_D
 have f4_D:=HB_D.o.frozen 4
 clear b0 b1 b2 b3 b4 b5 b6
 obtain ⟨b0,b1,b2,b3,b4,b5,b6⟩:=aF HX_D.o
 rw [HSU.o] at b6
 have HGB_D:=bY
 have SD:=cellsS HB_D.o HX_D.o
 go_region_held3 (fun w'=>w'.cell? ⟨p,0,none⟩=some (.slice (some ⟨bQ,0,none⟩) 4 bU)∧w'.cell? ⟨p,1,none⟩=some (.slice (some ⟨bT,0,none⟩) 4 bV)∧w'.cell? ⟨p,2,none⟩=some (iv d.r.o)∧w'.cell? ⟨p,3,none⟩=some (iv d.r.p)∧w'.cell? ⟨p,4,none⟩=some (iv d.r.f)∧w'.cell? ⟨p,5,none⟩=some (iv d.r.m)∧w'.cell? ⟨p,6,none⟩=some (.bool d.r.s)∧w'.cell? ⟨p,7,none⟩=some (.bool d.r.t)∧w'.cell? ⟨w.heap.size,1,none⟩=some (iv x.z)∧w'.cell? ⟨w.heap.size,2,none⟩=some (iv x.r)) (first|with_reducible exact SD|go_keep) (first|(go_at_call 107;refine st (gG (v:=0) _ HZ0.o HF.o) ?_))
 go_wp2_with (go_at_call 106;refine (xO _ lo mid hi p aT d x.z x.m x.k x.e a (0) HM_D.o HG1.o HI.o.k0 HI.o.k1 HA0.o HA1.o HZ0.o).mono ?_;rintro e9 W_2 ⟨rfl,kV,hm9,hb9⟩;obtain ⟨dM,qj,gX⟩:=hb9.nx HX_D HHB HGB_D HS_D;clear hb9;have gZ:=hide hm9;obtain ⟨wG,wJ,wH,wK,xY,yI,yH,aN,iq⟩:=hm9.op;have rZ:=aN.o.k4;have sZ:=aN.o.frozen 4;clear b0 b1 b2 b3 b4 b5 b6;obtain ⟨b0,b1,b2,b3,b4,b5,b6⟩:=aF dM.o;rw [HSU.o] at b6)
 first|go_end0|refine bodyPost_ret (results_none rfl _ _ _) rfl ?_
 exact ⟨rfl,kV,by rw [E.o,E2.o];exact gZ.o.cF _,gX.o.set p 4 _ HPH.o⟩
theorem XR (w:World) (lo mid hi p g2:Nat) (c:Pl.Mc) (x:Pl.In) (h:MAt w lo mid hi p g2 c) (G:Pl.GM c) (B:Pl.InB x) (hm:x.m=0∨x.m=2∨x.m=3∨x.m=4∨x.m=5∨x.m=6) (hfc:c.fine=true) (hs:x.s=0∨x.s=1∨x.s=2∨x.s=3) :
  Calls prog 108 #[.pointer (some ⟨p,0,none⟩),.agg (inX x)] w fun e w'=>e=.returned (.tuple #[])∧∃g3,MAt w' lo mid hi p g3 (c.one x)∧Since w lo hi g2 w' g3:=by
 by_cases h0:x.s=0
 ·exact EZ w lo mid hi p g2 c x h G B hm h0 hfc
 ·cases hf:(c.read x.z x.m x.k x.e).fine
  ·exact Oa w lo mid hi p g2 c x h G B hm (by simpa using h0) hf
  ·rcases hs with hs|hs|hs|hs
   ·exact absurd hs h0
   ·exact Jd w lo mid hi p g2 c x h G B hm hs hf
   ·exact Jc w lo mid hi p g2 c x h G B hm hs hf
   ·exact E5 w lo mid hi p g2 c x h G B hm hs hf
theorem jK (v:Int) (w:World) :
  Calls prog 154 #[iv v] w fun e w'=>e=.returned (.bool (Pl.bcd v))∧w'=w:=by
 by_cases hr:0≤v∧v≤255
 ·obtain ⟨h0,h1⟩:=hr
  have kd:(decide ((0:Int)≤v)&&decide (v≤255))=true:=by simp [h0,h1]
  have em:=Pl.LV v
  by_cases h2:v/16≤9
  all_goals
   by_cases h3:v%16≤9
   all_goals
    go_enter func154,ntmps154
    go_wp2_with fail
    refine (dW _ _ _ _).mono ?_
    rintro e w' ⟨rfl,rfl⟩
    go_wp2_with fail
    go_ret
    exact ⟨rB (by rw [Bool.eq_iff_iff];simp [Pl.bcd];omega),rfl⟩
 ·have kd:(decide ((0:Int)≤v)&&decide (v≤255))=false:=by
   rw [Bool.and_eq_false_iff,decide_eq_false_iff_not,decide_eq_false_iff_not];omega
  go_enter func154,ntmps154
  go_wp2_with fail
  refine (dW _ _ _ _).mono ?_
  rintro e w' ⟨rfl,rfl⟩
  go_wp2_with fail
  go_ret
  exact ⟨rB (by rw [Pl.bcd,kd];rfl),rfl⟩
theorem Sm (n:Int) (w:World) (h0:0≤n) (h1:n≤99) :
  Calls prog 186 #[iv n] w fun e w'=>e=.returned (iv (Pl.ofN n))∧w'=w:=by
 have eo:=Pl.RF n h0 h1
 go_enter func186,ntmps186
 go_wp2_with fail
 go_ret
 exact ⟨rfl,rfl⟩
theorem mV (v:Int) (w:World) (h:Pl.bcd v=true) :
  Calls prog 185 #[iv v] w fun e w'=>e=.returned (iv (Pl.num v))∧w'=w:=by
 obtain ⟨h0,h1,h2,h3⟩:=Pl.qh h
 have em:=Pl.LV v
 clear h
 go_enter func185,ntmps185
 go_wp2_with fail
 go_ret
 exact ⟨rfl,rfl⟩
theorem Dy (x a b:Int) (w:World) (h:Pl.fB x a b=true) :
  Calls prog 155 #[iv x,iv a,iv b] w fun e w'=>e=.returned (.tuple #[iv (Pl.aV x a b),iv (Pl.aC x a b)])∧w'=w:=by
 obtain ⟨x0,x1,ha,hb⟩:=Pl.uu h
 obtain ⟨a0,a1⟩:=Pl.lV ha
 obtain ⟨b0,b1⟩:=Pl.lV hb
 rw [Pl.Ed h,Pl.Ee h]
 go_enter func155,ntmps155
 go_wp2_with fail
 refine (mV a _ ha).mono ?_
 rintro e w' ⟨rfl,rfl⟩
 go_wp2_with fail
 refine (mV b _ hb).mono ?_
 rintro e w' ⟨rfl,rfl⟩
 go_wp2_with fail
 refine (Sm _ _ (by omega) (by omega)).mono ?_
 rintro e w' ⟨rfl,rfl⟩
 go_wp2_with fail
 go_ret2
 exact ⟨rfl,rfl⟩
theorem Dx (x a b:Int) (w:World) (h:Pl.fB x a b=true) :
  Calls prog 156 #[iv x,iv a,iv b] w fun e w'=>e=.returned (.tuple #[iv (Pl.sV x a b),iv (Pl.sC x a b)])∧w'=w:=by
 obtain ⟨x0,x1,ha,hb⟩:=Pl.uu h
 obtain ⟨a0,a1⟩:=Pl.lV ha
 obtain ⟨b0,b1⟩:=Pl.lV hb
 rw [Pl.H7 h,Pl.Qq h]
 unfold Pl.BU Pl.KC
 by_cases hn:Pl.num a-Pl.num b-x<0
 ·rw [if_pos hn,if_pos hn]
  go_enter func156,ntmps156
  go_wp2_with fail
  refine (mV a _ ha).mono ?_
  rintro e w' ⟨rfl,rfl⟩
  go_wp2_with fail
  refine (mV b _ hb).mono ?_
  rintro e w' ⟨rfl,rfl⟩
  go_wp2_with fail
  refine (Sm _ _ (by omega) (by omega)).mono ?_
  rintro e w' ⟨rfl,rfl⟩
  go_wp2_with fail
  go_ret2
  exact ⟨rfl,rfl⟩
 ·rw [if_neg hn,if_neg hn]
  go_enter func156,ntmps156
  go_wp2_with fail
  refine (mV a _ ha).mono ?_
  rintro e w' ⟨rfl,rfl⟩
  go_wp2_with fail
  refine (mV b _ hb).mono ?_
  rintro e w' ⟨rfl,rfl⟩
  go_wp2_with fail
  refine (Sm _ _ (by omega) (by omega)).mono ?_
  rintro e w' ⟨rfl,rfl⟩
  go_wp2_with fail
  go_ret2
  exact ⟨rfl,rfl⟩
end Go.Proofs.YtkkmnnhaailkcaaGreatDoor
