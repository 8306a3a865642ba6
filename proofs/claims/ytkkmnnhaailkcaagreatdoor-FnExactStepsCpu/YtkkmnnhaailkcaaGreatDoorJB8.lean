/- Part 8 of what the last text leans on. -/
import Derived.Test.YtkkmnnhaailkcaaGreatDoorJB7
import Derived.Test.YtkkmnnhaailkcaaGreatDoorJB1
import Derived.Test.YtkkmnnhaailkcaaGreatDoorJB2
import Derived.Test.YtkkmnnhaailkcaaGreatDoorJB4
import Derived.Deep.AppendLies
set_option maxRecDepth 100000
set_option maxHeartbeats 16000000
namespace Go.Proofs.YtkkmnnhaailkcaaGreatDoor
open Go.RowKit Go.Proofs.Tryz
set_option linter.unusedVariables false
theorem Ou (w:World) (lo mid hi p g2:Nat) (c:Pl.Mc) (x:Pl.In) (h:MAt w lo mid hi p g2 c) (G:Pl.GM c) (B:Pl.InB x) (hm:x.m=0∨x.m=2∨x.m=3∨x.m=4∨x.m=5∨x.m=6) (hs:(x.s==0)=false) (hf:(c.read x.z x.m x.k x.e).fine=false) :
  Calls prog 108 #[.pointer (some ⟨p,0,none⟩),.agg (inX x)] w fun e w'=>e=.returned (.tuple #[])∧∃g3,MAt w' lo mid hi p g3 (c.one x)∧Since w lo hi g2 w' g3:=by
 have HG:=hide G
 have HI:=hide B
 have E:Hid (c.one x=c.read x.z x.m x.k x.e):=hide (by unfold Pl.Mc.one;rw [hs,hf];rfl)
 have hl:=h.lo
 obtain ⟨X,hX,KA,HX,hbw,HHB,HGB,HPH,HPB,HMH,HS,HM⟩:=h.dS x
 obtain ⟨b0,b1,b2,b3,b4,b5,b6⟩:=aG HX.o
 clear h
 obtain ⟨gd,cd,ga,ca,g1,c1,c2,HB,HO⟩:=HM.o.op
 clear G B hm
 go_enter func108,ntmps108
 go_wp2_with (first|(go_at_call 103;refine (jM _ lo mid hi p g2 c x.z x.m x.k x.e HM.o HG.o HI.o.z HI.o.k0 HI.o.k1 HI.o.e0 HI.o.e1 HI.o.m0 HI.o.m1).mono ?_;rintro e9 W_1 ⟨rfl,aW,hm9,hb9⟩;obtain ⟨bu,di,bK⟩:=hb9.nx HX HHB HGB HS;clear hb9;have aY:=hide hm9;obtain ⟨bV,bY,bW,bZ,eX,fA,eY,aZ,bG⟩:=hm9.op;clear b0 b1 b2 b3 b4 b5 b6;obtain ⟨b0,b1,b2,b3,b4,b5,b6⟩:=aG bu.o)|(go_at_call 68;refine st (bT _ lo mid hi p aW _ aY.o) ?_;rw [hf]))
 first|go_end0|refine bodyPost_ret (results_none rfl _ _ _) rfl ?_
 exact ⟨rfl,aW,by rw [E.o];exact aY.o,bK.o⟩
theorem Fv (w:World) (lo mid hi p g2:Nat) (c:Pl.Mc) (x:Pl.In) (h:MAt w lo mid hi p g2 c) (G:Pl.GM c) (B:Pl.InB x) (hm:x.m=0∨x.m=2∨x.m=3∨x.m=4∨x.m=5∨x.m=6) (hs:x.s=3) (hf:(c.read x.z x.m x.k x.e).fine=true) :
  Calls prog 108 #[.pointer (some ⟨p,0,none⟩),.agg (inX x)] w fun e w'=>e=.returned (.tuple #[])∧∃g3,MAt w' lo mid hi p g3 (c.one x)∧Since w lo hi g2 w' g3:=by
 have HG:=hide G
 have HI:=hide B
 have HMM:=hide hm
 have HSU:=hide hs
 clear hs
 have hl:=h.lo
 obtain ⟨X,hX,KA,HX,hbw,HHB,HGB,HPH,HPB,HMH,HS,HM⟩:=h.dS x
 obtain ⟨b0,b1,b2,b3,b4,b5,b6⟩:=aG HX.o
 rw [HSU.o] at b6
 clear h
 obtain ⟨gd,cd,ga,ca,g1,c1,c2,HB,HO⟩:=HM.o.op
 clear G B hm
 have HV:=hide (Pl.dC (m:=x.m) HG.o HI.o.z HI.o.k0 HI.o.k1 HI.o.e0 HI.o.e1 (fun q=>absurd q (by have:=HMM.o;omega)) HI.o.n7)
 have HG1:=hide (HG.o.read (m:=x.m) HI.o.z HI.o.k0 HI.o.k1 HI.o.e0 HI.o.e1)
 have HFR:=Pl.xP c x.z x.m x.k x.e
 have HAA:0≤c.readA x.z x.m x.k x.e∧c.readA x.z x.m x.k x.e≤65535:=by
  unfold Pl.Mc.readA
  cases Pl.Mc.gU x.m
  ·exact Pl.iT HG.o.g HI.o.k0 HI.o.k1 HI.o.e0 HI.o.e1
  ·exact ⟨Int.le_refl 0,(by decide:(0:Int)≤65535)⟩
 have HRD:=fun w9 h9=>jM w9 lo mid hi p g2 c x.z x.m x.k x.e h9 HG.o HI.o.z HI.o.k0 HI.o.k1 HI.o.e0 HI.o.e1 HI.o.m0 HI.o.m1
 obtain ⟨d,hd⟩:∃d,c.read x.z x.m x.k x.e=d:=⟨_,rfl⟩
 obtain ⟨v,hv⟩:∃v,c.bf x.z x.m x.k x.e=v:=⟨_,rfl⟩
 obtain ⟨a,hA⟩:∃a,c.readA x.z x.m x.k x.e=a:=⟨_,rfl⟩
 have E:Hid (c.one x=c.one' d x a v):=hide (by unfold Pl.Mc.one;rw [HSU.o,hf,hd,hv,hA];rfl)
 rw [hd] at hf HG1 HFR
 rw [hv] at HV
 rw [hA] at HAA
 simp only [hd,hv,hA] at HRD
 clear hd hv hA
 have HFE:=hide HFR
 have HA0:=hide HAA.1
 have HA1:=hide HAA.2
 have HF:=hide (Pl.bI HG1.o)
 clear HFR HAA
 have E2:Hid (c.one' d x a v=d.aF (Pl.aS x.z d.r.f v)):=hide (by unfold Pl.Mc.one';rw [HSU.o,HFE.o];rfl)
 go_enter func108,ntmps108
 go_wp2_with (first|(go_at_call 103;refine (HRD _ HM.o).mono ?_;rintro e9 W_1 ⟨rfl,aW,hm9,hb9⟩;obtain ⟨bu,di,bK⟩:=hb9.nx HX HHB HGB HS;clear hb9;have aY:=hide hm9;obtain ⟨bV,bY,bW,bZ,eX,fA,eY,aZ,bG⟩:=hm9.op;obtain ⟨lV,lD,oI,kF,oH,oG,oD,oC⟩:=aZ.o.c8;clear b0 b1 b2 b3 b4 b5 b6;obtain ⟨b0,b1,b2,b3,b4,b5,b6⟩:=aG bu.o;rw [HSU.o] at b6)|(go_at_call 68;refine st (bT _ lo mid hi p aW _ aY.o) ?_;rw [hf]))
 have KD:=hide (ae (Kept.refl 0 0 W_1))
 have HM_D:=hide (aY.o.any KD.o)
 have HB_D:=hide (aZ.o.any KD.o)
 have HO_D:=hide (bG.o.any KD.o)
 have HX_D:=hide (bu.o.af KD.o)
 have HS_D:=hide (bK.o.any KD.o)
 obtain ⟨t0_D,t1_D,t2_D,t3_D,t4_D,t5_D,t6_D,t7_D,t8_D,t9_D,t10_D,t11_D,t12_D,t13_D,t14_D,t15_D⟩:=HB_D.o.cells
 clear t0_D t1_D t2_D t3_D t5_D t6_D t7_D t8_D t9_D t10_D t11_D t12_D t13_D t14_D t15_D
 have f4_D:=HB_D.o.frozen 4
 clear b0 b1 b2 b3 b4 b5 b6
 obtain ⟨b0,b1,b2,b3,b4,b5,b6⟩:=aG HX_D.o
 rw [HSU.o] at b6
 have HGB_D:=di
 have SD:=cellsS HB_D.o HX_D.o
 go_region_held3 (fun w'=>w'.cell? ⟨p,0,none⟩=some (.slice (some ⟨bV,0,none⟩) 4 bY)∧w'.cell? ⟨p,1,none⟩=some (.slice (some ⟨bW,0,none⟩) 4 bZ)∧w'.cell? ⟨p,2,none⟩=some (iv d.r.o)∧w'.cell? ⟨p,3,none⟩=some (iv d.r.p)∧w'.cell? ⟨p,4,none⟩=some (iv d.r.f)∧w'.cell? ⟨p,5,none⟩=some (iv d.r.m)∧w'.cell? ⟨p,6,none⟩=some (.bool d.r.s)∧w'.cell? ⟨p,7,none⟩=some (.bool d.r.t)∧w'.cell? ⟨w.heap.size,1,none⟩=some (iv x.z)∧w'.cell? ⟨w.heap.size,2,none⟩=some (iv x.r)) (first|with_reducible exact SD|go_keep) (first|(go_at_call 107;refine st (gQ (v:=v) _ HV.o HF.o) ?_))
 go_wp2_with fail
 first|go_end0|refine bodyPost_ret (results_none rfl _ _ _) rfl ?_
 exact ⟨rfl,aW,by rw [E.o,E2.o];exact HM_D.o.cF _,HS_D.o.set p 4 _ HPH.o⟩
theorem Jp (w:World) (lo mid hi p g2:Nat) (c:Pl.Mc) (x:Pl.In) (h:MAt w lo mid hi p g2 c) (G:Pl.GM c) (B:Pl.InB x) (hm:x.m=0∨x.m=2∨x.m=3∨x.m=4∨x.m=5∨x.m=6) (hs:x.s=1) (hf:(c.read x.z x.m x.k x.e).fine=true) :
  Calls prog 108 #[.pointer (some ⟨p,0,none⟩),.agg (inX x)] w fun e w'=>e=.returned (.tuple #[])∧∃g3,MAt w' lo mid hi p g3 (c.one x)∧Since w lo hi g2 w' g3:=by
 have HG:=hide G
 have HI:=hide B
 have HMM:=hide hm
 have HSU:=hide hs
 clear hs
 have hl:=h.lo
 obtain ⟨X,hX,KA,HX,hbw,HHB,HGB,HPH,HPB,HMH,HS,HM⟩:=h.dS x
 obtain ⟨b0,b1,b2,b3,b4,b5,b6⟩:=aG HX.o
 rw [HSU.o] at b6
 clear h
 obtain ⟨gd,cd,ga,ca,g1,c1,c2,HB,HO⟩:=HM.o.op
 clear G B hm
 have HV:=hide (Pl.dC (m:=x.m) HG.o HI.o.z HI.o.k0 HI.o.k1 HI.o.e0 HI.o.e1 (fun q=>absurd q (by have:=HMM.o;omega)) HI.o.n7)
 have HG1:=hide (HG.o.read (m:=x.m) HI.o.z HI.o.k0 HI.o.k1 HI.o.e0 HI.o.e1)
 have HFR:=Pl.xP c x.z x.m x.k x.e
 have HAA:0≤c.readA x.z x.m x.k x.e∧c.readA x.z x.m x.k x.e≤65535:=by
  unfold Pl.Mc.readA
  cases Pl.Mc.gU x.m
  ·exact Pl.iT HG.o.g HI.o.k0 HI.o.k1 HI.o.e0 HI.o.e1
  ·exact ⟨Int.le_refl 0,(by decide:(0:Int)≤65535)⟩
 have HRD:=fun w9 h9=>jM w9 lo mid hi p g2 c x.z x.m x.k x.e h9 HG.o HI.o.z HI.o.k0 HI.o.k1 HI.o.e0 HI.o.e1 HI.o.m0 HI.o.m1
 obtain ⟨d,hd⟩:∃d,c.read x.z x.m x.k x.e=d:=⟨_,rfl⟩
 obtain ⟨v,hv⟩:∃v,c.bf x.z x.m x.k x.e=v:=⟨_,rfl⟩
 obtain ⟨a,hA⟩:∃a,c.readA x.z x.m x.k x.e=a:=⟨_,rfl⟩
 have E:Hid (c.one x=c.one' d x a v):=hide (by unfold Pl.Mc.one;rw [HSU.o,hf,hd,hv,hA];rfl)
 rw [hd] at hf HG1 HFR
 rw [hv] at HV
 rw [hA] at HAA
 simp only [hd,hv,hA] at HRD
 clear hd hv hA
 have HFE:=hide HFR
 have HA0:=hide HAA.1
 have HA1:=hide HAA.2
 have HF:=hide (Pl.bI HG1.o)
 clear HFR HAA
 have E2:Hid (c.one' d x a v=(d.write x.z x.m x.k a (Pl.kV x.z 0 0 v)).aF (Pl.gJ x.z 0 0 v)):=hide (by unfold Pl.Mc.one';rw [HSU.o];rfl)
 have HZ0:Hid (Pl.okv x.z 0=true):=hide (by rcases HI.o.z with q|q<;>rw [q]<;>decide)
 have HVV:Hid (Pl.okv x.z (Pl.kV x.z 0 0 v)=true):=hide (Pl.mW HI.o.z)
 go_enter func108,ntmps108
 go_wp2_with (first|(go_at_call 103;refine (HRD _ HM.o).mono ?_;rintro e9 W_1 ⟨rfl,aW,hm9,hb9⟩;obtain ⟨bu,di,bK⟩:=hb9.nx HX HHB HGB HS;clear hb9;have aY:=hide hm9;obtain ⟨bV,bY,bW,bZ,eX,fA,eY,aZ,bG⟩:=hm9.op;obtain ⟨lV,lD,oI,kF,oH,oG,oD,oC⟩:=aZ.o.c8;clear b0 b1 b2 b3 b4 b5 b6;obtain ⟨b0,b1,b2,b3,b4,b5,b6⟩:=aG bu.o;rw [HSU.o] at b6)|(go_at_call 68;refine st (bT _ lo mid hi p aW _ aY.o) ?_;rw [hf]))
 have KD:=hide (ae (Kept.refl 0 0 W_1))
 have HM_D:=hide (aY.o.any KD.o)
 have HB_D:=hide (aZ.o.any KD.o)
 have HO_D:=hide (bG.o.any KD.o)
 have HX_D:=hide (bu.o.af KD.o)
 have HS_D:=hide (bK.o.any KD.o)
 obtain ⟨t0_D,t1_D,t2_D,t3_D,t4_D,t5_D,t6_D,t7_D,t8_D,t9_D,t10_D,t11_D,t12_D,t13_D,t14_D,t15_D⟩:=HB_D.o.cells
 clear t0_D t1_D t2_D t3_D t5_D t6_D t7_D t8_D t9_D t10_D t11_D t12_D t13_D t14_D t15_D
 have f4_D:=HB_D.o.frozen 4
 clear b0 b1 b2 b3 b4 b5 b6
 obtain ⟨b0,b1,b2,b3,b4,b5,b6⟩:=aG HX_D.o
 rw [HSU.o] at b6
 have HGB_D:=di
 have SD:=cellsS HB_D.o HX_D.o
 go_region_held3 (fun w'=>w'.cell? ⟨p,0,none⟩=some (.slice (some ⟨bV,0,none⟩) 4 bY)∧w'.cell? ⟨p,1,none⟩=some (.slice (some ⟨bW,0,none⟩) 4 bZ)∧w'.cell? ⟨p,2,none⟩=some (iv d.r.o)∧w'.cell? ⟨p,3,none⟩=some (iv d.r.p)∧w'.cell? ⟨p,4,none⟩=some (iv d.r.f)∧w'.cell? ⟨p,5,none⟩=some (iv d.r.m)∧w'.cell? ⟨p,6,none⟩=some (.bool d.r.s)∧w'.cell? ⟨p,7,none⟩=some (.bool d.r.t)∧w'.cell? ⟨w.heap.size,1,none⟩=some (iv x.z)∧w'.cell? ⟨w.heap.size,2,none⟩=some (iv x.r)) (first|with_reducible exact SD|go_keep) (first|(go_at_call 107;refine st (gQ (v:=v) _ HV.o HF.o) ?_))
 go_wp2_with (first|(go_at_call 145;refine st (yh _ _ _ _ _ (Pl.uU HZ0.o HV.o)) ?_)|(go_at_call 106;refine (yg _ lo mid hi p aW d x.z x.m x.k x.e a (Pl.kV x.z 0 0 v) HM_D.o HG1.o HI.o.k0 HI.o.k1 HA0.o HA1.o HVV.o).mono ?_;rintro e9 W_2 ⟨rfl,lw,hm9,hb9⟩;obtain ⟨dU,qp,iq⟩:=hb9.nx HX_D HHB HGB_D HS_D;clear hb9;have iy:=hide hm9;obtain ⟨wO,wR,wP,wS,yx,yR,yQ,aP,iE⟩:=hm9.op;have sN:=aP.o.k4;have tY:=aP.o.frozen 4;clear b0 b1 b2 b3 b4 b5 b6;obtain ⟨b0,b1,b2,b3,b4,b5,b6⟩:=aG dU.o;rw [HSU.o] at b6))
 first|go_end0|refine bodyPost_ret (results_none rfl _ _ _) rfl ?_
 exact ⟨rfl,lw,by rw [E.o,E2.o];exact iy.o.cF _,iq.o.set p 4 _ HPH.o⟩
theorem Jo (w:World) (lo mid hi p g2:Nat) (c:Pl.Mc) (x:Pl.In) (h:MAt w lo mid hi p g2 c) (G:Pl.GM c) (B:Pl.InB x) (hm:x.m=0∨x.m=2∨x.m=3∨x.m=4∨x.m=5∨x.m=6) (hs:x.s=2) (hf:(c.read x.z x.m x.k x.e).fine=true) :
  Calls prog 108 #[.pointer (some ⟨p,0,none⟩),.agg (inX x)] w fun e w'=>e=.returned (.tuple #[])∧∃g3,MAt w' lo mid hi p g3 (c.one x)∧Since w lo hi g2 w' g3:=by
 have HG:=hide G
 have HI:=hide B
 have HMM:=hide hm
 have HSU:=hide hs
 clear hs
 have hl:=h.lo
 obtain ⟨X,hX,KA,HX,hbw,HHB,HGB,HPH,HPB,HMH,HS,HM⟩:=h.dS x
 obtain ⟨b0,b1,b2,b3,b4,b5,b6⟩:=aG HX.o
 rw [HSU.o] at b6
 clear h
 obtain ⟨gd,cd,ga,ca,g1,c1,c2,HB,HO⟩:=HM.o.op
 clear G B hm
 have HV:=hide (Pl.dC (m:=x.m) HG.o HI.o.z HI.o.k0 HI.o.k1 HI.o.e0 HI.o.e1 (fun q=>absurd q (by have:=HMM.o;omega)) HI.o.n7)
 have HG1:=hide (HG.o.read (m:=x.m) HI.o.z HI.o.k0 HI.o.k1 HI.o.e0 HI.o.e1)
 have HFR:=Pl.xP c x.z x.m x.k x.e
 have HAA:0≤c.readA x.z x.m x.k x.e∧c.readA x.z x.m x.k x.e≤65535:=by
  unfold Pl.Mc.readA
  cases Pl.Mc.gU x.m
  ·exact Pl.iT HG.o.g HI.o.k0 HI.o.k1 HI.o.e0 HI.o.e1
  ·exact ⟨Int.le_refl 0,(by decide:(0:Int)≤65535)⟩
 have HRD:=fun w9 h9=>jM w9 lo mid hi p g2 c x.z x.m x.k x.e h9 HG.o HI.o.z HI.o.k0 HI.o.k1 HI.o.e0 HI.o.e1 HI.o.m0 HI.o.m1
 obtain ⟨d,hd⟩:∃d,c.read x.z x.m x.k x.e=d:=⟨_,rfl⟩
 obtain ⟨v,hv⟩:∃v,c.bf x.z x.m x.k x.e=v:=⟨_,rfl⟩
 obtain ⟨a,hA⟩:∃a,c.readA x.z x.m x.k x.e=a:=⟨_,rfl⟩
 have E:Hid (c.one x=c.one' d x a v):=hide (by unfold Pl.Mc.one;rw [HSU.o,hf,hd,hv,hA];rfl)
 rw [hd] at hf HG1 HFR
 rw [hv] at HV
 rw [hA] at HAA
 simp only [hd,hv,hA] at HRD
 clear hd hv hA
 have HFE:=hide HFR
 have HA0:=hide HAA.1
 have HA1:=hide HAA.2
 have HF:=hide (Pl.bI HG1.o)
 clear HFR HAA
 have E2:Hid (c.one' d x a v=(d.write x.z x.m x.k a (Pl.top x.z-1-v)).aF (Pl.aS x.z d.r.f (Pl.top x.z-1-v))):=hide (by unfold Pl.Mc.one';rw [HSU.o,HFE.o];rfl)
 have ht:=Pl.aQ HV.o
 have ht0:256≤Pl.top x.z:=by omega
 have ht1:Pl.top x.z≤65536:=by omega
 obtain ⟨_,hv0,hv1⟩:=ht
 have HVV:Hid (Pl.okv x.z (Pl.top x.z-1-v)=true):=hide (by unfold Pl.okv;simp only [Bool.and_eq_true,Bool.or_eq_true,decide_eq_true_eq];exact ⟨HI.o.z,by omega,by omega⟩)
 go_enter func108,ntmps108
 go_wp2_with (first|(go_at_call 103;refine (HRD _ HM.o).mono ?_;rintro e9 W_1 ⟨rfl,aW,hm9,hb9⟩;obtain ⟨bu,di,bK⟩:=hb9.nx HX HHB HGB HS;clear hb9;have aY:=hide hm9;obtain ⟨bV,bY,bW,bZ,eX,fA,eY,aZ,bG⟩:=hm9.op;obtain ⟨lV,lD,oI,kF,oH,oG,oD,oC⟩:=aZ.o.c8;clear b0 b1 b2 b3 b4 b5 b6;obtain ⟨b0,b1,b2,b3,b4,b5,b6⟩:=aG bu.o;rw [HSU.o] at b6)|(go_at_call 68;refine st (bT _ lo mid hi p aW _ aY.o) ?_;rw [hf]))
 have KD:=hide (ae (Kept.refl 0 0 W_1))
 have HM_D:=hide (aY.o.any KD.o)
 have HB_D:=hide (aZ.o.any KD.o)
 have HO_D:=hide (bG.o.any KD.o)
 have HX_D:=hide (bu.o.af KD.o)
 have HS_D:=hide (bK.o.any KD.o)
 obtain ⟨t0_D,t1_D,t2_D,t3_D,t4_D,t5_D,t6_D,t7_D,t8_D,t9_D,t10_D,t11_D,t12_D,t13_D,t14_D,t15_D⟩:=HB_D.o.cells
 clear t0_D t1_D t2_D t3_D t5_D t6_D t7_D t8_D t9_D t10_D t11_D t12_D t13_D t14_D t15_D
 have f4_D:=HB_D.o.frozen 4
 clear b0 b1 b2 b3 b4 b5 b6
 obtain ⟨b0,b1,b2,b3,b4,b5,b6⟩:=aG HX_D.o
 rw [HSU.o] at b6
 have HGB_D:=di
 have SD:=cellsS HB_D.o HX_D.o
 go_region_held3 (fun w'=>w'.cell? ⟨p,0,none⟩=some (.slice (some ⟨bV,0,none⟩) 4 bY)∧w'.cell? ⟨p,1,none⟩=some (.slice (some ⟨bW,0,none⟩) 4 bZ)∧w'.cell? ⟨p,2,none⟩=some (iv d.r.o)∧w'.cell? ⟨p,3,none⟩=some (iv d.r.p)∧w'.cell? ⟨p,4,none⟩=some (iv d.r.f)∧w'.cell? ⟨p,5,none⟩=some (iv d.r.m)∧w'.cell? ⟨p,6,none⟩=some (.bool d.r.s)∧w'.cell? ⟨p,7,none⟩=some (.bool d.r.t)∧w'.cell? ⟨w.heap.size,1,none⟩=some (iv x.z)∧w'.cell? ⟨w.heap.size,2,none⟩=some (iv x.r)) (first|with_reducible exact SD|go_keep) (first|(go_at_call 107;refine st (gQ (v:=v) _ HV.o HF.o) ?_))
 go_wp2_with (go_at_call 143;refine st (JX x.z HI.o.z _) ?_)
 have KE:=hide (ae (Kept.refl 0 0 W_1.drew))
 have HM_E:=hide (HM_D.o.any KE.o)
 have HB_E:=hide (HB_D.o.any KE.o)
 have HO_E:=hide (HO_D.o.any KE.o)
 have HX_E:=hide (HX_D.o.af KE.o)
 have HS_E:=hide (HS_D.o.any KE.o)
 obtain ⟨t0_E,t1_E,t2_E,t3_E,t4_E,t5_E,t6_E,t7_E,t8_E,t9_E,t10_E,t11_E,t12_E,t13_E,t14_E,t15_E⟩:=HB_E.o.cells
 clear t0_E t1_E t2_E t3_E t5_E t6_E t7_E t8_E t9_E t10_E t11_E t12_E t13_E t14_E t15_E
 have f4_E:=HB_E.o.frozen 4
 clear b0 b1 b2 b3 b4 b5 b6
 obtain ⟨b0,b1,b2,b3,b4,b5,b6⟩:=aG HX_E.o
 rw [HSU.o] at b6
 have HGB_E:=HGB_D
 have SE:=cellsS HB_E.o HX_E.o
 go_region_held3 (fun w'=>w'.cell? ⟨p,0,none⟩=some (.slice (some ⟨bV,0,none⟩) 4 bY)∧w'.cell? ⟨p,1,none⟩=some (.slice (some ⟨bW,0,none⟩) 4 bZ)∧w'.cell? ⟨p,2,none⟩=some (iv d.r.o)∧w'.cell? ⟨p,3,none⟩=some (iv d.r.p)∧w'.cell? ⟨p,4,none⟩=some (iv d.r.f)∧w'.cell? ⟨p,5,none⟩=some (iv d.r.m)∧w'.cell? ⟨p,6,none⟩=some (.bool d.r.s)∧w'.cell? ⟨p,7,none⟩=some (.bool d.r.t)∧w'.cell? ⟨w.heap.size,1,none⟩=some (iv x.z)∧w'.cell? ⟨w.heap.size,2,none⟩=some (iv x.r)) (first|with_reducible exact SE|go_keep) (first|(go_at_call 107;refine st (gQ (v:=Pl.top x.z-1-v) _ HVV.o HF.o) ?_))
 go_wp2_with (go_at_call 106;refine (yg _ lo mid hi p aW d x.z x.m x.k x.e a (Pl.top x.z-1-v) HM_E.o HG1.o HI.o.k0 HI.o.k1 HA0.o HA1.o HVV.o).mono ?_;rintro e9 W_2 ⟨rfl,lw,hm9,hb9⟩;obtain ⟨dU,qp,iq⟩:=hb9.nx HX_E HHB HGB_E HS_E;clear hb9;have iy:=hide hm9;obtain ⟨wO,wR,wP,wS,yx,yR,yQ,aP,iE⟩:=hm9.op;have sN:=aP.o.k4;have tY:=aP.o.frozen 4;clear b0 b1 b2 b3 b4 b5 b6;obtain ⟨b0,b1,b2,b3,b4,b5,b6⟩:=aG dU.o;rw [HSU.o] at b6)
 first|go_end0|refine bodyPost_ret (results_none rfl _ _ _) rfl ?_
 exact ⟨rfl,lw,by rw [E.o,E2.o];exact iy.o.cF _,iq.o.set p 4 _ HPH.o⟩
theorem Fq (w:World) (lo mid hi p g2:Nat) (c:Pl.Mc) (x:Pl.In) (h:MAt w lo mid hi p g2 c) (G:Pl.GM c) (B:Pl.InB x) (hm:x.m=0∨x.m=2∨x.m=3∨x.m=4∨x.m=5∨x.m=6) (hs:x.s=0) (hfc:c.fine=true) :
  Calls prog 108 #[.pointer (some ⟨p,0,none⟩),.agg (inX x)] w fun e w'=>e=.returned (.tuple #[])∧∃g3,MAt w' lo mid hi p g3 (c.one x)∧Since w lo hi g2 w' g3:=by
 have HG:=hide G
 have HI:=hide B
 have HMM:=hide hm
 have HSU:=hide hs
 clear hs
 have hl:=h.lo
 obtain ⟨X,hX,KA,HX,hbw,HHB,HGB,HPH,HPB,HMH,HS,HM⟩:=h.dS x
 obtain ⟨b0,b1,b2,b3,b4,b5,b6⟩:=aG HX.o
 rw [HSU.o] at b6
 clear h
 obtain ⟨gd,cd,ga,ca,g1,c1,c2,HB,HO⟩:=HM.o.op
 clear G B hm
 have HG1:=hide (HG.o.place (z:=x.z) (m:=x.m) (e:=x.e) HI.o.k0 HI.o.k1)
 have HFR:=Pl.xU c x.z x.m x.k x.e
 have HAA:=Pl.qw (z:=x.z) (m:=x.m) HG.o HI.o.k0 HI.o.k1 HI.o.e0 HI.o.e1
 have hf:(c.place x.z x.m x.k x.e).fine=true:=by
  rw [←hfc];unfold Pl.Mc.place;cases x.m==0<;>rfl
 have HRD:=fun w9 h9=>tH w9 lo mid hi p g2 c x.z x.m x.k x.e h9 HG.o HI.o.k0 HI.o.k1 HI.o.e0 HI.o.e1 HMM.o
 have E2:c.IR x=((c.place x.z x.m x.k x.e).write x.z x.m x.k (c.iR x.z x.m x.k x.e) 0).aF (Pl.aS x.z c.r.f 0):=rfl
 obtain ⟨d,hd⟩:∃d,c.place x.z x.m x.k x.e=d:=⟨_,rfl⟩
 obtain ⟨a,hA⟩:∃a,c.iR x.z x.m x.k x.e=a:=⟨_,rfl⟩
 have E:Hid (c.one x=c.IR x):=hide (by unfold Pl.Mc.one;rw [HSU.o];rfl)
 rw [hd] at hf HG1 HFR
 rw [hA] at HAA
 rw [hd,hA,←HFR] at E2
 have E2:=hide E2
 simp only [hd,hA] at HRD
 clear hd hA hfc
 have HA0:=hide HAA.1
 have HA1:=hide HAA.2
 have HF:=hide (Pl.bI HG1.o)
 have HZ0:Hid (Pl.okv x.z 0=true):=hide (by rcases HI.o.z with q|q<;>rw [q]<;>decide)
 clear HFR HAA
 go_enter func108,ntmps108
 go_wp2_with (first|(go_at_call 104;refine (HRD _ HM.o).mono ?_;rintro e9 W_1 ⟨rfl,aW,hm9,hb9⟩;obtain ⟨bu,di,bK⟩:=hb9.nx HX HHB HGB HS;clear hb9;have aY:=hide hm9;obtain ⟨bV,bY,bW,bZ,eX,fA,eY,aZ,bG⟩:=hm9.op;obtain ⟨lV,lD,oI,kF,oH,oG,oD,oC⟩:=aZ.o.c8;clear b0 b1 b2 b3 b4 b5 b6;obtain ⟨b0,b1,b2,b3,b4,b5,b6⟩:=aG bu.o;rw [HSU.o] at b6)|(go_at_call 68;refine st (bT _ lo mid hi p aW _ aY.o) ?_;rw [hf]))
 have KD:=hide (ae (Kept.refl 0 0 W_1))
 have HM_D:=hide (aY.o.any KD.o)
 have HB_D:=hide (aZ.o.any KD.o)
 have HO_D:=hide (bG.o.any KD.o)
 have HX_D:=hide (bu.o.af KD.o)
 have HS_D:=hide (bK.o.any KD.o)
 obtain ⟨t0_D,t1_D,t2_D,t3_D,t4_D,t5_D,t6_D,t7_D,t8_D,t9_D,t10_D,t11_D,t12_D,t13_D,t14_D,t15_D⟩:=HB_D.o.cells
 clear t0_D t1_D t2_D t3_D t5_D t6_D t7_D t8_D t9_D t10_D t11_D t12_D t13_D t14_D t15_D
 have f4_D:=HB_D.o.frozen 4
 clear b0 b1 b2 b3 b4 b5 b6
 obtain ⟨b0,b1,b2,b3,b4,b5,b6⟩:=aG HX_D.o
 rw [HSU.o] at b6
 have HGB_D:=di
 have SD:=cellsS HB_D.o HX_D.o
 go_region_held3 (fun w'=>w'.cell? ⟨p,0,none⟩=some (.slice (some ⟨bV,0,none⟩) 4 bY)∧w'.cell? ⟨p,1,none⟩=some (.slice (some ⟨bW,0,none⟩) 4 bZ)∧w'.cell? ⟨p,2,none⟩=some (iv d.r.o)∧w'.cell? ⟨p,3,none⟩=some (iv d.r.p)∧w'.cell? ⟨p,4,none⟩=some (iv d.r.f)∧w'.cell? ⟨p,5,none⟩=some (iv d.r.m)∧w'.cell? ⟨p,6,none⟩=some (.bool d.r.s)∧w'.cell? ⟨p,7,none⟩=some (.bool d.r.t)∧w'.cell? ⟨w.heap.size,1,none⟩=some (iv x.z)∧w'.cell? ⟨w.heap.size,2,none⟩=some (iv x.r)) (first|with_reducible exact SD|go_keep) (first|(go_at_call 107;refine st (gQ (v:=0) _ HZ0.o HF.o) ?_))
 go_wp2_with (go_at_call 106;refine (yg _ lo mid hi p aW d x.z x.m x.k x.e a (0) HM_D.o HG1.o HI.o.k0 HI.o.k1 HA0.o HA1.o HZ0.o).mono ?_;rintro e9 W_2 ⟨rfl,lw,hm9,hb9⟩;obtain ⟨dU,qp,iq⟩:=hb9.nx HX_D HHB HGB_D HS_D;clear hb9;have iy:=hide hm9;obtain ⟨wO,wR,wP,wS,yx,yR,yQ,aP,iE⟩:=hm9.op;have sN:=aP.o.k4;have tY:=aP.o.frozen 4;clear b0 b1 b2 b3 b4 b5 b6;obtain ⟨b0,b1,b2,b3,b4,b5,b6⟩:=aG dU.o;rw [HSU.o] at b6)
 first|go_end0|refine bodyPost_ret (results_none rfl _ _ _) rfl ?_
 exact ⟨rfl,lw,by rw [E.o,E2.o];exact iy.o.cF _,iq.o.set p 4 _ HPH.o⟩
theorem Yp (w:World) (lo mid hi p g2:Nat) (c:Pl.Mc) (x:Pl.In) (h:MAt w lo mid hi p g2 c) (G:Pl.GM c) (B:Pl.InB x) (hm:x.m=0∨x.m=2∨x.m=3∨x.m=4∨x.m=5∨x.m=6) (hfc:c.fine=true) (hs:x.s=0∨x.s=1∨x.s=2∨x.s=3) :
  Calls prog 108 #[.pointer (some ⟨p,0,none⟩),.agg (inX x)] w fun e w'=>e=.returned (.tuple #[])∧∃g3,MAt w' lo mid hi p g3 (c.one x)∧Since w lo hi g2 w' g3:=by
 by_cases h0:x.s=0
 ·exact Fq w lo mid hi p g2 c x h G B hm h0 hfc
 ·cases hf:(c.read x.z x.m x.k x.e).fine
  ·exact Ou w lo mid hi p g2 c x h G B hm (by simpa using h0) hf
  ·rcases hs with hs|hs|hs|hs
   ·exact absurd hs h0
   ·exact Jp w lo mid hi p g2 c x h G B hm hs hf
   ·exact Jo w lo mid hi p g2 c x h G B hm hs hf
   ·exact Fv w lo mid hi p g2 c x h G B hm hs hf
theorem jO (v:Int) (w:World) :
  Calls prog 154 #[iv v] w fun e w'=>e=.returned (.bool (Pl.bcd v))∧w'=w:=by
 by_cases hr:0≤v∧v≤255
 ·obtain ⟨h0,h1⟩:=hr
  have kd:(decide ((0:Int)≤v)&&decide (v≤255))=true:=by simp [h0,h1]
  have em:=Pl.ML v
  by_cases h2:v/16≤9
  all_goals
   by_cases h3:v%16≤9
   all_goals
    go_enter func154,ntmps154
    go_wp2_with fail
    refine (dY _ _ _ _).mono ?_
    rintro e w' ⟨rfl,rfl⟩
    go_wp2_with fail
    go_ret
    exact ⟨rB (by rw [Bool.eq_iff_iff];simp [Pl.bcd];omega),rfl⟩
 ·have kd:(decide ((0:Int)≤v)&&decide (v≤255))=false:=by
   rw [Bool.and_eq_false_iff,decide_eq_false_iff_not,decide_eq_false_iff_not];omega
  go_enter func154,ntmps154
  go_wp2_with fail
  refine (dY _ _ _ _).mono ?_
  rintro e w' ⟨rfl,rfl⟩
  go_wp2_with fail
  go_ret
  exact ⟨rB (by rw [Pl.bcd,kd];rfl),rfl⟩
theorem Tt (n:Int) (w:World) (h0:0≤n) (h1:n≤99) :
  Calls prog 186 #[iv n] w fun e w'=>e=.returned (iv (Pl.ofN n))∧w'=w:=by
 have eo:=Pl.SB n h0 h1
 go_enter func186,ntmps186
 go_wp2_with fail
 go_ret
 exact ⟨rfl,rfl⟩
theorem mY (v:Int) (w:World) (h:Pl.bcd v=true) :
  Calls prog 185 #[iv v] w fun e w'=>e=.returned (iv (Pl.num v))∧w'=w:=by
 obtain ⟨h0,h1,h2,h3⟩:=Pl.qm h
 have em:=Pl.ML v
 clear h
 go_enter func185,ntmps185
 go_wp2_with fail
 go_ret
 exact ⟨rfl,rfl⟩
theorem DT (x a b:Int) (w:World) (h:Pl.fF x a b=true) :
  Calls prog 155 #[iv x,iv a,iv b] w fun e w'=>e=.returned (.tuple #[iv (Pl.aV x a b),iv (Pl.aC x a b)])∧w'=w:=by
 obtain ⟨x0,x1,ha,hb⟩:=Pl.uF h
 obtain ⟨a0,a1⟩:=Pl.lY ha
 obtain ⟨b0,b1⟩:=Pl.lY hb
 rw [Pl.Es h,Pl.Et h]
 go_enter func155,ntmps155
 go_wp2_with fail
 refine (mY a _ ha).mono ?_
 rintro e w' ⟨rfl,rfl⟩
 go_wp2_with fail
 refine (mY b _ hb).mono ?_
 rintro e w' ⟨rfl,rfl⟩
 go_wp2_with fail
 refine (Tt _ _ (by omega) (by omega)).mono ?_
 rintro e w' ⟨rfl,rfl⟩
 go_wp2_with fail
 go_ret2
 exact ⟨rfl,rfl⟩
theorem DR (x a b:Int) (w:World) (h:Pl.fF x a b=true) :
  Calls prog 156 #[iv x,iv a,iv b] w fun e w'=>e=.returned (.tuple #[iv (Pl.sV x a b),iv (Pl.sC x a b)])∧w'=w:=by
 obtain ⟨x0,x1,ha,hb⟩:=Pl.uF h
 obtain ⟨a0,a1⟩:=Pl.lY ha
 obtain ⟨b0,b1⟩:=Pl.lY hb
 rw [Pl.Il h,Pl.QD h]
 unfold Pl.CG Pl.Ld
 by_cases hn:Pl.num a-Pl.num b-x<0
 ·rw [if_pos hn,if_pos hn]
  go_enter func156,ntmps156
  go_wp2_with fail
  refine (mY a _ ha).mono ?_
  rintro e w' ⟨rfl,rfl⟩
  go_wp2_with fail
  refine (mY b _ hb).mono ?_
  rintro e w' ⟨rfl,rfl⟩
  go_wp2_with fail
  refine (Tt _ _ (by omega) (by omega)).mono ?_
  rintro e w' ⟨rfl,rfl⟩
  go_wp2_with fail
  go_ret2
  exact ⟨rfl,rfl⟩
 ·rw [if_neg hn,if_neg hn]
  go_enter func156,ntmps156
  go_wp2_with fail
  refine (mY a _ ha).mono ?_
  rintro e w' ⟨rfl,rfl⟩
  go_wp2_with fail
  refine (mY b _ hb).mono ?_
  rintro e w' ⟨rfl,rfl⟩
  go_wp2_with fail
  refine (Tt _ _ (by omega) (by omega)).mono ?_
  rintro e w' ⟨rfl,rfl⟩
  go_wp2_with fail
  go_ret2
  exact ⟨rfl,rfl⟩
namespace Pl
theorem Nh:∀j:Nat,j<32→fl (bits .and .i64 (j:Int) 16 != 0) 1=(j:Int)/16%2:=by decide +kernel
theorem Nb:∀j:Nat,j<32→∀C:Nat,C<2→bits .or .i64 (bits .and .i64 (j:Int) 4) ((C:Int)*17)=fl ((j:Int)/4%2==1) 4+(C:Int)*17∧fl ((j:Int)/4%2==1) 4+(C:Int)*17≤31∧0≤fl ((j:Int)/4%2==1) 4+(C:Int)*17:=by decide +kernel
theorem VM:∀C:Nat,C<2→bits .or .i64 0 ((C:Int)*17)=(C:Int)*17:=by decide +kernel
theorem qy {v:Int} (h:bcd v=true):okv 1 v=true:=by have:=qm h;simp [okv,top];omega
end Pl
theorem FX (w:World) (lo mid hi p g2:Nat) (c:Pl.Mc) (x:Pl.In) (h:MAt w lo mid hi p g2 c) (G:Pl.GM c) (B:Pl.InB x) (hq1:Pl.bcd (el c.r.xs x.r.toNat%256)=false) (hq2:Pl.bcd (el c.r.xs x.k.toNat%256)=false) :
  Calls prog 114 #[.pointer (some ⟨p,0,none⟩),.agg (inX x)] w fun e w'=>e=.returned (.tuple #[])∧∃g3,MAt w' lo mid hi p g3 (c.jB x)∧Since w lo hi g2 w' g3:=by
 have HG:=hide G
 have HI:=hide B
 have hl:=h.lo
 obtain ⟨X,hX,KA,HX,hbw,HHB,HGB,HPH,HPB,HMH,HS,HM⟩:=h.dS x
 obtain ⟨b0,b1,b2,b3,b4,b5,b6⟩:=aG HX.o
 clear h
 obtain ⟨gd,cd,ga,ca,g1,c1,c2,HB,HO⟩:=HM.o.op
 have t0:=HB.o.k0
 clear G B
 have r0:=HI.o.r0
 have r1:=HI.o.r1
 have r4:x.r<4:=by omega
 have k0:=HI.o.k0
 have k1:=HI.o.k1
 have k4:x.k<4:=by omega
 have HR4:Hid (x.r.toNat<4):=hide (by omega)
 have HK4:Hid (x.k.toNat<4):=hide (by omega)
 obtain ⟨D1,hD1⟩:∃D,el c.r.xs x.r.toNat=D:=⟨_,rfl⟩
 obtain ⟨D2,hD2⟩:∃D,el c.r.xs x.k.toNat=D:=⟨_,rfl⟩
 obtain ⟨hc1,_⟩:=jL HO.o.d x.r.toNat (by rw [HG.o.g.d4];exact HR4.o)
 obtain ⟨hc2,_⟩:=jL HO.o.d x.k.toNat (by rw [HG.o.g.d4];exact HK4.o)
 rw [hD1] at hc1
 rw [hD2] at hc2
 have m1:=Pl.dP D1
 have m2:=Pl.dP D2
 obtain ⟨A,hA⟩:∃A,D1%256=A:=⟨_,rfl⟩
 obtain ⟨Bb,hB2⟩:∃A,D2%256=A:=⟨_,rfl⟩
 rw [hA] at m1
 rw [hB2] at m2
 have E:Hid (c.jB x=c.kR x A Bb):=hide (by unfold Pl.Mc.jB;rw [hD1,hD2,hA,hB2])
 rw [hD1,hA] at hq1
 rw [hD2,hB2] at hq2
 clear hD1 hD2 hA hB2
 have E2:Hid (c.kR x A Bb=c.vec 4):=hide (by unfold Pl.Mc.kR;rw [hq1,hq2];rfl)
 have KB:=hide (ae (ae (Kept.refl 0 0 X)))
 have HM_B:=hide (HM.o.any KB.o)
 have HB_B:=hide (HB.o.any KB.o)
 have HO_B:=hide (HO.o.any KB.o)
 have HX_B:=hide (HX.o.af KB.o)
 have HS_B:=hide (HS.o.any KB.o)
 obtain ⟨t0_B,t1_B,t2_B,t3_B,t4_B,t5_B,t6_B,t7_B,t8_B,t9_B,t10_B,t11_B,t12_B,t13_B,t14_B,t15_B⟩:=HB_B.o.cells
 clear t0_B t1_B t2_B t3_B t4_B t5_B t6_B t7_B t8_B t9_B t10_B t12_B t13_B t14_B t15_B
 have f11_B:=HB_B.o.frozen 11
 go_enter func114,ntmps114
 go_wp2_with fail
 go_region
 go_wp2_with fail
 go_region
 go_wp2_with (go_at_call 154;refine st (jO _ _) ?_;first|rw [hq1]|rw [hq2])
 first|go_end0|refine bodyPost_ret (results_none rfl _ _ _) rfl ?_
 exact ⟨rfl,g2,by rw [E.o,E2.o];exact HM_B.o.cV 4,HS_B.o.set p 11 _ HPH.o⟩
theorem FW (w:World) (lo mid hi p g2:Nat) (c:Pl.Mc) (x:Pl.In) (h:MAt w lo mid hi p g2 c) (G:Pl.GM c) (B:Pl.InB x) (hq1:Pl.bcd (el c.r.xs x.r.toNat%256)=false) (hq2:Pl.bcd (el c.r.xs x.k.toNat%256)=true) :
  Calls prog 114 #[.pointer (some ⟨p,0,none⟩),.agg (inX x)] w fun e w'=>e=.returned (.tuple #[])∧∃g3,MAt w' lo mid hi p g3 (c.jB x)∧Since w lo hi g2 w' g3:=by
 have HG:=hide G
 have HI:=hide B
 have hl:=h.lo
 obtain ⟨X,hX,KA,HX,hbw,HHB,HGB,HPH,HPB,HMH,HS,HM⟩:=h.dS x
 obtain ⟨b0,b1,b2,b3,b4,b5,b6⟩:=aG HX.o
 clear h
 obtain ⟨gd,cd,ga,ca,g1,c1,c2,HB,HO⟩:=HM.o.op
 have t0:=HB.o.k0
 clear G B
 have r0:=HI.o.r0
 have r1:=HI.o.r1
 have r4:x.r<4:=by omega
 have k0:=HI.o.k0
 have k1:=HI.o.k1
 have k4:x.k<4:=by omega
 have HR4:Hid (x.r.toNat<4):=hide (by omega)
 have HK4:Hid (x.k.toNat<4):=hide (by omega)
 obtain ⟨D1,hD1⟩:∃D,el c.r.xs x.r.toNat=D:=⟨_,rfl⟩
 obtain ⟨D2,hD2⟩:∃D,el c.r.xs x.k.toNat=D:=⟨_,rfl⟩
 obtain ⟨hc1,_⟩:=jL HO.o.d x.r.toNat (by rw [HG.o.g.d4];exact HR4.o)
 obtain ⟨hc2,_⟩:=jL HO.o.d x.k.toNat (by rw [HG.o.g.d4];exact HK4.o)
 rw [hD1] at hc1
 rw [hD2] at hc2
 have m1:=Pl.dP D1
 have m2:=Pl.dP D2
 obtain ⟨A,hA⟩:∃A,D1%256=A:=⟨_,rfl⟩
 obtain ⟨Bb,hB2⟩:∃A,D2%256=A:=⟨_,rfl⟩
 rw [hA] at m1
 rw [hB2] at m2
 have E:Hid (c.jB x=c.kR x A Bb):=hide (by unfold Pl.Mc.jB;rw [hD1,hD2,hA,hB2])
 rw [hD1,hA] at hq1
 rw [hD2,hB2] at hq2
 clear hD1 hD2 hA hB2
 have E2:Hid (c.kR x A Bb=c.vec 4):=hide (by unfold Pl.Mc.kR;rw [hq1,hq2];rfl)
 have KB:=hide (ae (ae (Kept.refl 0 0 X)))
 have HM_B:=hide (HM.o.any KB.o)
 have HB_B:=hide (HB.o.any KB.o)
 have HO_B:=hide (HO.o.any KB.o)
 have HX_B:=hide (HX.o.af KB.o)
 have HS_B:=hide (HS.o.any KB.o)
 obtain ⟨t0_B,t1_B,t2_B,t3_B,t4_B,t5_B,t6_B,t7_B,t8_B,t9_B,t10_B,t11_B,t12_B,t13_B,t14_B,t15_B⟩:=HB_B.o.cells
 clear t0_B t1_B t2_B t3_B t4_B t5_B t6_B t7_B t8_B t9_B t10_B t12_B t13_B t14_B t15_B
 have f11_B:=HB_B.o.frozen 11
 go_enter func114,ntmps114
 go_wp2_with fail
 go_region
 go_wp2_with fail
 go_region
 go_wp2_with (go_at_call 154;refine st (jO _ _) ?_;first|rw [hq1]|rw [hq2])
 first|go_end0|refine bodyPost_ret (results_none rfl _ _ _) rfl ?_
 exact ⟨rfl,g2,by rw [E.o,E2.o];exact HM_B.o.cV 4,HS_B.o.set p 11 _ HPH.o⟩
theorem FV (w:World) (lo mid hi p g2:Nat) (c:Pl.Mc) (x:Pl.In) (h:MAt w lo mid hi p g2 c) (G:Pl.GM c) (B:Pl.InB x) (hq1:Pl.bcd (el c.r.xs x.r.toNat%256)=true) (hq2:Pl.bcd (el c.r.xs x.k.toNat%256)=false) :
  Calls prog 114 #[.pointer (some ⟨p,0,none⟩),.agg (inX x)] w fun e w'=>e=.returned (.tuple #[])∧∃g3,MAt w' lo mid hi p g3 (c.jB x)∧Since w lo hi g2 w' g3:=by
 have HG:=hide G
 have HI:=hide B
 have hl:=h.lo
 obtain ⟨X,hX,KA,HX,hbw,HHB,HGB,HPH,HPB,HMH,HS,HM⟩:=h.dS x
 obtain ⟨b0,b1,b2,b3,b4,b5,b6⟩:=aG HX.o
 clear h
 obtain ⟨gd,cd,ga,ca,g1,c1,c2,HB,HO⟩:=HM.o.op
 have t0:=HB.o.k0
 clear G B
 have r0:=HI.o.r0
 have r1:=HI.o.r1
 have r4:x.r<4:=by omega
 have k0:=HI.o.k0
 have k1:=HI.o.k1
 have k4:x.k<4:=by omega
 have HR4:Hid (x.r.toNat<4):=hide (by omega)
 have HK4:Hid (x.k.toNat<4):=hide (by omega)
 obtain ⟨D1,hD1⟩:∃D,el c.r.xs x.r.toNat=D:=⟨_,rfl⟩
 obtain ⟨D2,hD2⟩:∃D,el c.r.xs x.k.toNat=D:=⟨_,rfl⟩
 obtain ⟨hc1,_⟩:=jL HO.o.d x.r.toNat (by rw [HG.o.g.d4];exact HR4.o)
 obtain ⟨hc2,_⟩:=jL HO.o.d x.k.toNat (by rw [HG.o.g.d4];exact HK4.o)
 rw [hD1] at hc1
 rw [hD2] at hc2
 have m1:=Pl.dP D1
 have m2:=Pl.dP D2
 obtain ⟨A,hA⟩:∃A,D1%256=A:=⟨_,rfl⟩
 obtain ⟨Bb,hB2⟩:∃A,D2%256=A:=⟨_,rfl⟩
 rw [hA] at m1
 rw [hB2] at m2
 have E:Hid (c.jB x=c.kR x A Bb):=hide (by unfold Pl.Mc.jB;rw [hD1,hD2,hA,hB2])
 rw [hD1,hA] at hq1
 rw [hD2,hB2] at hq2
 clear hD1 hD2 hA hB2
 have E2:Hid (c.kR x A Bb=c.vec 4):=hide (by unfold Pl.Mc.kR;rw [hq1,hq2];rfl)
 have KB:=hide (ae (ae (Kept.refl 0 0 X)))
 have HM_B:=hide (HM.o.any KB.o)
 have HB_B:=hide (HB.o.any KB.o)
 have HO_B:=hide (HO.o.any KB.o)
 have HX_B:=hide (HX.o.af KB.o)
 have HS_B:=hide (HS.o.any KB.o)
 obtain ⟨t0_B,t1_B,t2_B,t3_B,t4_B,t5_B,t6_B,t7_B,t8_B,t9_B,t10_B,t11_B,t12_B,t13_B,t14_B,t15_B⟩:=HB_B.o.cells
 clear t0_B t1_B t2_B t3_B t4_B t5_B t6_B t7_B t8_B t9_B t10_B t12_B t13_B t14_B t15_B
 have f11_B:=HB_B.o.frozen 11
 go_enter func114,ntmps114
 go_wp2_with fail
 go_region
 go_wp2_with fail
 go_region
 go_wp2_with (go_at_call 154;refine st (jO _ _) ?_;first|rw [hq1]|rw [hq2])
 first|go_end0|refine bodyPost_ret (results_none rfl _ _ _) rfl ?_
 exact ⟨rfl,g2,by rw [E.o,E2.o];exact HM_B.o.cV 4,HS_B.o.set p 11 _ HPH.o⟩
theorem FT (w:World) (lo mid hi p g2:Nat) (c:Pl.Mc) (x:Pl.In) (h:MAt w lo mid hi p g2 c) (G:Pl.GM c) (B:Pl.InB x) (hq1:Pl.bcd (el c.r.xs x.r.toNat%256)=true) (hq2:Pl.bcd (el c.r.xs x.k.toNat%256)=true) (hs:(x.s==1)=false) (hz:(Pl.aV c.xOf (el c.r.xs x.r.toNat%256) (el c.r.xs x.k.toNat%256)==0)=true) :
  Calls prog 114 #[.pointer (some ⟨p,0,none⟩),.agg (inX x)] w fun e w'=>e=.returned (.tuple #[])∧∃g3,MAt w' lo mid hi p g3 (c.jB x)∧Since w lo hi g2 w' g3:=by
 have HG:=hide G
 have HI:=hide B
 have hl:=h.lo
 obtain ⟨X,hX,KA,HX,hbw,HHB,HGB,HPH,HPB,HMH,HS,HM⟩:=h.dS x
 obtain ⟨b0,b1,b2,b3,b4,b5,b6⟩:=aG HX.o
 clear h
 obtain ⟨gd,cd,ga,ca,g1,c1,c2,HB,HO⟩:=HM.o.op
 have t0:=HB.o.k0
 clear G B
 have r0:=HI.o.r0
 have r1:=HI.o.r1
 have r4:x.r<4:=by omega
 have k0:=HI.o.k0
 have k1:=HI.o.k1
 have k4:x.k<4:=by omega
 have HR4:Hid (x.r.toNat<4):=hide (by omega)
 have HK4:Hid (x.k.toNat<4):=hide (by omega)
 obtain ⟨D1,hD1⟩:∃D,el c.r.xs x.r.toNat=D:=⟨_,rfl⟩
 obtain ⟨D2,hD2⟩:∃D,el c.r.xs x.k.toNat=D:=⟨_,rfl⟩
 obtain ⟨hc1,_⟩:=jL HO.o.d x.r.toNat (by rw [HG.o.g.d4];exact HR4.o)
 obtain ⟨hc2,_⟩:=jL HO.o.d x.k.toNat (by rw [HG.o.g.d4];exact HK4.o)
 rw [hD1] at hc1
 rw [hD2] at hc2
 have m1:=Pl.dP D1
 have m2:=Pl.dP D2
 obtain ⟨A,hA⟩:∃A,D1%256=A:=⟨_,rfl⟩
 obtain ⟨Bb,hB2⟩:∃A,D2%256=A:=⟨_,rfl⟩
 rw [hA] at m1
 rw [hB2] at m2
 have E:Hid (c.jB x=c.kR x A Bb):=hide (by unfold Pl.Mc.jB;rw [hD1,hD2,hA,hB2])
 rw [hD1,hA] at hq1 hz
 rw [hD2,hB2] at hq2 hz
 clear hD1 hD2 hA hB2
 obtain ⟨j,hj,hjf⟩:=Pl.lZ (n:=32) HG.o.g.f0 (by have:=HG.o.g.f1;omega)
 have HXF:Hid (Pl.fl (bits .and .i64 c.r.f 16 != 0) 1=c.xOf):=hide (by unfold Pl.Mc.xOf;rw [hjf];exact Pl.Nh j hj)
 have HX2:Hid (Pl.fF c.xOf A Bb=true):=hide (Pl.lH (by unfold Pl.Mc.xOf;omega) (by unfold Pl.Mc.xOf;omega) hq1 hq2)
 have EV:c.kK x.s A Bb=Pl.aV c.xOf A Bb:=by unfold Pl.Mc.kK;rw [hs];rfl
 have EC:c.lU x.s A Bb=Pl.aC c.xOf A Bb:=by unfold Pl.Mc.lU;rw [hs];rfl
 have HCb:=Pl.Ar c.xOf A Bb
 have HVb:=Pl.qy (Pl.yX HX2.o)
 obtain ⟨V,hV⟩:∃V,Pl.aV c.xOf A Bb=V:=⟨_,rfl⟩
 obtain ⟨C,hC⟩:∃C,Pl.aC c.xOf A Bb=C:=⟨_,rfl⟩
 rw [hV] at EV HVb hz
 rw [hC] at EC HCb
 obtain ⟨n,hn⟩:∃n:Nat,C=(n:Int):=⟨C.toNat,by omega⟩
 have hn2:n<2:=by omega
 have EF:c.nD x.s A Bb=Pl.fl (c.r.f/4%2==1) 4+C*17:=by unfold Pl.Mc.nD;rw [EV,EC,hz];simp
 obtain ⟨F,hF⟩:∃F,c.nD x.s A Bb=F:=⟨_,rfl⟩
 rw [hF] at EF
 have HFb:0≤F∧F≤31:=by
  rw [EF,hjf,hn];have q:=Pl.Nb j hj n hn2;exact ⟨q.2.2,q.2.1⟩
 have hcf:bits .or .i64 (bits .and .i64 c.r.f 4) (C*17)=F:=by rw [EF,hjf,hn];exact (Pl.Nb j hj n hn2).1
 have hC0:0≤C:=HCb.1
 have hC1:C≤1:=HCb.2
 have E2:Hid (c.kR x A Bb=(c.aF F).put 1 x.r V):=hide (by unfold Pl.Mc.kR;rw [hq1,hq2,EV,hF];rfl)
 have HVV:=hide HVb
 have HGF:=hide (HG.o.aF HFb.1 HFb.2).g
 have HHV:=hide hV
 have HHC:=hide hC
 clear hV hC EV EC EF hF HFb HCb HVb hn hjf hn2 hj
 obtain ⟨s0,s1,s2,s3,s4,s5,s6,s7,_⟩:=HB.o.cells
 have f0:=HB.o.fz
 clear s0
 go_enter func114,ntmps114
 go_wp2_with fail
 go_region
 go_wp2_with fail
 go_region
 go_wp2_with (first|(go_at_call 154;refine st (jO _ _) ?_;first|rw [hq1]|rw [hq2])|(go_at_call 146;refine st (dF _ _ _) ?_;rw [HXF.o])|(go_at_call 155;refine st (DT _ _ _ _ HX2.o) ?_;rw [HHV.o,HHC.o])|(go_at_call 156;refine st (DR _ _ _ _ HX2.o) ?_))
 have HBY:=hide ((HB.o.cF (F)).any (ae (ae (ae (Kept.refl 0 0 (X.setCell ⟨p,4,none⟩ (iv (F))))))))
 have HOY:=hide ((HO.o.own (ak _ p 4 (iv (F)))).any (ae (ae (ae (Kept.refl 0 0 (X.setCell ⟨p,4,none⟩ (iv (F))))))))
 have HSY:=hide ((HS.o.set p 4 (iv (F)) HPH.o).drew.drew.drew)
 have HXY:=hide ((HX.o.other p 4 (iv (F)) (by have:=HPB.o;omega)).af (ae (ae (ae (Kept.refl 0 0 (X.setCell ⟨p,4,none⟩ (iv (F))))))))
 have HRY:=hide (MO.reg (r:=(c.aF (F)).r) HOY.o)
 have HMY:Hid (mid≤(X.setCell ⟨p,4,none⟩ (iv (F))).drew.drew.drew.heap.size):=hide (Nat.le_trans HMH.o HOY.o.hh)
 have HPM:=HOY.o.p0
 have HNM:Hid (¬(lo≤w.heap.size∧w.heap.size<mid)):=hide (by have:=HHB.o;have:=HMH.o;omega)
 have HNP:Hid (¬(p≤w.heap.size∧w.heap.size<p+1)):=hide (by have:=HPB.o;omega)
 have SYD:=cellsS HBY.o HXY.o
 go_region_held3 (fun w'=>w'.cell? ⟨p,0,none⟩=some (.slice (some ⟨gd,0,none⟩) 4 cd)∧w'.cell? ⟨p,1,none⟩=some (.slice (some ⟨ga,0,none⟩) 4 ca)∧w'.cell? ⟨p,2,none⟩=some (iv (c.aF (F)).r.o)∧w'.cell? ⟨p,3,none⟩=some (iv (c.aF (F)).r.p)∧w'.cell? ⟨p,4,none⟩=some (iv (c.aF (F)).r.f)∧w'.cell? ⟨p,5,none⟩=some (iv (c.aF (F)).r.m)∧w'.cell? ⟨p,6,none⟩=some (.bool (c.aF (F)).r.s)∧w'.cell? ⟨p,7,none⟩=some (.bool (c.aF (F)).r.t)∧w'.cell? ⟨w.heap.size,1,none⟩=some (iv x.z)∧w'.cell? ⟨w.heap.size,2,none⟩=some (iv x.r)) (first|with_reducible exact SYD|with_reducible exact cellsS aH.o jh.o|exact cellsS (aH.o.laid (Pl.jy (c.aF (F)).r 1 x.r V)) (Blk.kept jh.o (MB.jf _ _ _ _ _ _ _ _) HNP.o)|go_keep) (first|(go_at_call 110;refine (qK _ lo mid gd cd ga ca (c.aF (F)).r 1 x.r V HRY.o HMY.o HGF.o HI.o.r0 HI.o.r1 HVV.o).mono ?_;unfold iQ;rintro e9 W_9 ⟨rfl,hr9,hk9⟩;have jX:=hide (HOY.o.regs hr9 hk9);have aH:=hide (HBY.o.regs hk9 HPM);have jh:=hide (Blk.kept HXY.o hk9 HNM.o);have jW:=hide (HSY.o.ai hk9 (Nat.le_refl _) HMH.o);clear hr9 hk9;obtain ⟨u0,u1,u2,u3,u4,u5,u6,u7,_⟩:=aH.o.cells;have f0:=aH.o.frozen 0;have f1:=aH.o.frozen 1;have f2:=aH.o.frozen 2;have f3:=aH.o.frozen 3;have f4:=aH.o.frozen 4;have f5:=aH.o.frozen 5;have f6:=aH.o.frozen 6;have f7:=aH.o.frozen 7))
 go_wp2_with fail
 first|go_end0|refine bodyPost_ret (results_none rfl _ _ _) rfl ?_
 exact ⟨rfl,g2,by rw [E.o,E2.o];exact MAt.laid aH.o jX.o,fM jW.o HPH.o _ _ _ _ _ _ _ _⟩
theorem FU (w:World) (lo mid hi p g2:Nat) (c:Pl.Mc) (x:Pl.In) (h:MAt w lo mid hi p g2 c) (G:Pl.GM c) (B:Pl.InB x) (hq1:Pl.bcd (el c.r.xs x.r.toNat%256)=true) (hq2:Pl.bcd (el c.r.xs x.k.toNat%256)=true) (hs:(x.s==1)=false) (hz:(Pl.aV c.xOf (el c.r.xs x.r.toNat%256) (el c.r.xs x.k.toNat%256)==0)=false) :
  Calls prog 114 #[.pointer (some ⟨p,0,none⟩),.agg (inX x)] w fun e w'=>e=.returned (.tuple #[])∧∃g3,MAt w' lo mid hi p g3 (c.jB x)∧Since w lo hi g2 w' g3:=by
 have HG:=hide G
 have HI:=hide B
 have hl:=h.lo
 obtain ⟨X,hX,KA,HX,hbw,HHB,HGB,HPH,HPB,HMH,HS,HM⟩:=h.dS x
 obtain ⟨b0,b1,b2,b3,b4,b5,b6⟩:=aG HX.o
 clear h
 obtain ⟨gd,cd,ga,ca,g1,c1,c2,HB,HO⟩:=HM.o.op
 have t0:=HB.o.k0
 clear G B
 have r0:=HI.o.r0
 have r1:=HI.o.r1
 have r4:x.r<4:=by omega
 have k0:=HI.o.k0
 have k1:=HI.o.k1
 have k4:x.k<4:=by omega
 have HR4:Hid (x.r.toNat<4):=hide (by omega)
 have HK4:Hid (x.k.toNat<4):=hide (by omega)
 obtain ⟨D1,hD1⟩:∃D,el c.r.xs x.r.toNat=D:=⟨_,rfl⟩
 obtain ⟨D2,hD2⟩:∃D,el c.r.xs x.k.toNat=D:=⟨_,rfl⟩
 obtain ⟨hc1,_⟩:=jL HO.o.d x.r.toNat (by rw [HG.o.g.d4];exact HR4.o)
 obtain ⟨hc2,_⟩:=jL HO.o.d x.k.toNat (by rw [HG.o.g.d4];exact HK4.o)
 rw [hD1] at hc1
 rw [hD2] at hc2
 have m1:=Pl.dP D1
 have m2:=Pl.dP D2
 obtain ⟨A,hA⟩:∃A,D1%256=A:=⟨_,rfl⟩
 obtain ⟨Bb,hB2⟩:∃A,D2%256=A:=⟨_,rfl⟩
 rw [hA] at m1
 rw [hB2] at m2
 have E:Hid (c.jB x=c.kR x A Bb):=hide (by unfold Pl.Mc.jB;rw [hD1,hD2,hA,hB2])
 rw [hD1,hA] at hq1 hz
 rw [hD2,hB2] at hq2 hz
 clear hD1 hD2 hA hB2
 obtain ⟨j,hj,hjf⟩:=Pl.lZ (n:=32) HG.o.g.f0 (by have:=HG.o.g.f1;omega)
 have HXF:Hid (Pl.fl (bits .and .i64 c.r.f 16 != 0) 1=c.xOf):=hide (by unfold Pl.Mc.xOf;rw [hjf];exact Pl.Nh j hj)
 have HX2:Hid (Pl.fF c.xOf A Bb=true):=hide (Pl.lH (by unfold Pl.Mc.xOf;omega) (by unfold Pl.Mc.xOf;omega) hq1 hq2)
 have EV:c.kK x.s A Bb=Pl.aV c.xOf A Bb:=by unfold Pl.Mc.kK;rw [hs];rfl
 have EC:c.lU x.s A Bb=Pl.aC c.xOf A Bb:=by unfold Pl.Mc.lU;rw [hs];rfl
 have HCb:=Pl.Ar c.xOf A Bb
 have HVb:=Pl.qy (Pl.yX HX2.o)
 obtain ⟨V,hV⟩:∃V,Pl.aV c.xOf A Bb=V:=⟨_,rfl⟩
 obtain ⟨C,hC⟩:∃C,Pl.aC c.xOf A Bb=C:=⟨_,rfl⟩
 rw [hV] at EV HVb hz
 rw [hC] at EC HCb
 obtain ⟨n,hn⟩:∃n:Nat,C=(n:Int):=⟨C.toNat,by omega⟩
 have hn2:n<2:=by omega
 have EF:c.nD x.s A Bb=C*17:=by unfold Pl.Mc.nD;rw [EV,EC,hz];simp [Pl.fl]
 obtain ⟨F,hF⟩:∃F,c.nD x.s A Bb=F:=⟨_,rfl⟩
 rw [hF] at EF
 have HFb:0≤F∧F≤31:=by
  rw [EF,hn];omega
 have hcf:bits .or .i64 0 (C*17)=F:=by rw [EF,hn];exact Pl.VM n hn2
 have hC0:0≤C:=HCb.1
 have hC1:C≤1:=HCb.2
 have E2:Hid (c.kR x A Bb=(c.aF F).put 1 x.r V):=hide (by unfold Pl.Mc.kR;rw [hq1,hq2,EV,hF];rfl)
 have HVV:=hide HVb
 have HGF:=hide (HG.o.aF HFb.1 HFb.2).g
 have HHV:=hide hV
 have HHC:=hide hC
 clear hV hC EV EC EF hF HFb HCb HVb hn hjf hn2 hj
 obtain ⟨s0,s1,s2,s3,s4,s5,s6,s7,_⟩:=HB.o.cells
 have f0:=HB.o.fz
 clear s0
 go_enter func114,ntmps114
 go_wp2_with fail
 go_region
 go_wp2_with fail
 go_region
 go_wp2_with (first|(go_at_call 154;refine st (jO _ _) ?_;first|rw [hq1]|rw [hq2])|(go_at_call 146;refine st (dF _ _ _) ?_;rw [HXF.o])|(go_at_call 155;refine st (DT _ _ _ _ HX2.o) ?_;rw [HHV.o,HHC.o])|(go_at_call 156;refine st (DR _ _ _ _ HX2.o) ?_))
 have HBY:=hide ((HB.o.cF (F)).any (ae (ae (ae (Kept.refl 0 0 (X.setCell ⟨p,4,none⟩ (iv (F))))))))
 have HOY:=hide ((HO.o.own (ak _ p 4 (iv (F)))).any (ae (ae (ae (Kept.refl 0 0 (X.setCell ⟨p,4,none⟩ (iv (F))))))))
 have HSY:=hide ((HS.o.set p 4 (iv (F)) HPH.o).drew.drew.drew)
 have HXY:=hide ((HX.o.other p 4 (iv (F)) (by have:=HPB.o;omega)).af (ae (ae (ae (Kept.refl 0 0 (X.setCell ⟨p,4,none⟩ (iv (F))))))))
 have HRY:=hide (MO.reg (r:=(c.aF (F)).r) HOY.o)
 have HMY:Hid (mid≤(X.setCell ⟨p,4,none⟩ (iv (F))).drew.drew.drew.heap.size):=hide (Nat.le_trans HMH.o HOY.o.hh)
 have HPM:=HOY.o.p0
 have HNM:Hid (¬(lo≤w.heap.size∧w.heap.size<mid)):=hide (by have:=HHB.o;have:=HMH.o;omega)
 have HNP:Hid (¬(p≤w.heap.size∧w.heap.size<p+1)):=hide (by have:=HPB.o;omega)
 have SYD:=cellsS HBY.o HXY.o
 go_region_held3 (fun w'=>w'.cell? ⟨p,0,none⟩=some (.slice (some ⟨gd,0,none⟩) 4 cd)∧w'.cell? ⟨p,1,none⟩=some (.slice (some ⟨ga,0,none⟩) 4 ca)∧w'.cell? ⟨p,2,none⟩=some (iv (c.aF (F)).r.o)∧w'.cell? ⟨p,3,none⟩=some (iv (c.aF (F)).r.p)∧w'.cell? ⟨p,4,none⟩=some (iv (c.aF (F)).r.f)∧w'.cell? ⟨p,5,none⟩=some (iv (c.aF (F)).r.m)∧w'.cell? ⟨p,6,none⟩=some (.bool (c.aF (F)).r.s)∧w'.cell? ⟨p,7,none⟩=some (.bool (c.aF (F)).r.t)∧w'.cell? ⟨w.heap.size,1,none⟩=some (iv x.z)∧w'.cell? ⟨w.heap.size,2,none⟩=some (iv x.r)) (first|with_reducible exact SYD|with_reducible exact cellsS aH.o jh.o|exact cellsS (aH.o.laid (Pl.jy (c.aF (F)).r 1 x.r V)) (Blk.kept jh.o (MB.jf _ _ _ _ _ _ _ _) HNP.o)|go_keep) (first|(go_at_call 110;refine (qK _ lo mid gd cd ga ca (c.aF (F)).r 1 x.r V HRY.o HMY.o HGF.o HI.o.r0 HI.o.r1 HVV.o).mono ?_;unfold iQ;rintro e9 W_9 ⟨rfl,hr9,hk9⟩;have jX:=hide (HOY.o.regs hr9 hk9);have aH:=hide (HBY.o.regs hk9 HPM);have jh:=hide (Blk.kept HXY.o hk9 HNM.o);have jW:=hide (HSY.o.ai hk9 (Nat.le_refl _) HMH.o);clear hr9 hk9;obtain ⟨u0,u1,u2,u3,u4,u5,u6,u7,_⟩:=aH.o.cells;have f0:=aH.o.frozen 0;have f1:=aH.o.frozen 1;have f2:=aH.o.frozen 2;have f3:=aH.o.frozen 3;have f4:=aH.o.frozen 4;have f5:=aH.o.frozen 5;have f6:=aH.o.frozen 6;have f7:=aH.o.frozen 7))
 go_wp2_with fail
 first|go_end0|refine bodyPost_ret (results_none rfl _ _ _) rfl ?_
 exact ⟨rfl,g2,by rw [E.o,E2.o];exact MAt.laid aH.o jX.o,fM jW.o HPH.o _ _ _ _ _ _ _ _⟩
theorem FP (w:World) (lo mid hi p g2:Nat) (c:Pl.Mc) (x:Pl.In) (h:MAt w lo mid hi p g2 c) (G:Pl.GM c) (B:Pl.InB x) (hq1:Pl.bcd (el c.r.xs x.r.toNat%256)=true) (hq2:Pl.bcd (el c.r.xs x.k.toNat%256)=true) (hs:x.s=1) (hz:(Pl.sV c.xOf (el c.r.xs x.r.toNat%256) (el c.r.xs x.k.toNat%256)==0)=true) :
  Calls prog 114 #[.pointer (some ⟨p,0,none⟩),.agg (inX x)] w fun e w'=>e=.returned (.tuple #[])∧∃g3,MAt w' lo mid hi p g3 (c.jB x)∧Since w lo hi g2 w' g3:=by
 have HG:=hide G
 have HI:=hide B
 have HSU:=hide hs
 clear hs
 have hl:=h.lo
 obtain ⟨X,hX,KA,HX,hbw,HHB,HGB,HPH,HPB,HMH,HS,HM⟩:=h.dS x
 obtain ⟨b0,b1,b2,b3,b4,b5,b6⟩:=aG HX.o
 rw [HSU.o] at b6
 clear h
 obtain ⟨gd,cd,ga,ca,g1,c1,c2,HB,HO⟩:=HM.o.op
 have t0:=HB.o.k0
 clear G B
 have r0:=HI.o.r0
 have r1:=HI.o.r1
 have r4:x.r<4:=by omega
 have k0:=HI.o.k0
 have k1:=HI.o.k1
 have k4:x.k<4:=by omega
 have HR4:Hid (x.r.toNat<4):=hide (by omega)
 have HK4:Hid (x.k.toNat<4):=hide (by omega)
 obtain ⟨D1,hD1⟩:∃D,el c.r.xs x.r.toNat=D:=⟨_,rfl⟩
 obtain ⟨D2,hD2⟩:∃D,el c.r.xs x.k.toNat=D:=⟨_,rfl⟩
 obtain ⟨hc1,_⟩:=jL HO.o.d x.r.toNat (by rw [HG.o.g.d4];exact HR4.o)
 obtain ⟨hc2,_⟩:=jL HO.o.d x.k.toNat (by rw [HG.o.g.d4];exact HK4.o)
 rw [hD1] at hc1
 rw [hD2] at hc2
 have m1:=Pl.dP D1
 have m2:=Pl.dP D2
 obtain ⟨A,hA⟩:∃A,D1%256=A:=⟨_,rfl⟩
 obtain ⟨Bb,hB2⟩:∃A,D2%256=A:=⟨_,rfl⟩
 rw [hA] at m1
 rw [hB2] at m2
 have E:Hid (c.jB x=c.kR x A Bb):=hide (by unfold Pl.Mc.jB;rw [hD1,hD2,hA,hB2])
 rw [hD1,hA] at hq1 hz
 rw [hD2,hB2] at hq2 hz
 clear hD1 hD2 hA hB2
 obtain ⟨j,hj,hjf⟩:=Pl.lZ (n:=32) HG.o.g.f0 (by have:=HG.o.g.f1;omega)
 have HXF:Hid (Pl.fl (bits .and .i64 c.r.f 16 != 0) 1=c.xOf):=hide (by unfold Pl.Mc.xOf;rw [hjf];exact Pl.Nh j hj)
 have HX2:Hid (Pl.fF c.xOf A Bb=true):=hide (Pl.lH (by unfold Pl.Mc.xOf;omega) (by unfold Pl.Mc.xOf;omega) hq1 hq2)
 have EV:c.kK x.s A Bb=Pl.sV c.xOf A Bb:=by unfold Pl.Mc.kK;rw [HSU.o];rfl
 have EC:c.lU x.s A Bb=Pl.sC c.xOf A Bb:=by unfold Pl.Mc.lU;rw [HSU.o];rfl
 have HCb:=Pl.Dp c.xOf A Bb
 have HVb:=Pl.qy (Pl.xO HX2.o)
 obtain ⟨V,hV⟩:∃V,Pl.sV c.xOf A Bb=V:=⟨_,rfl⟩
 obtain ⟨C,hC⟩:∃C,Pl.sC c.xOf A Bb=C:=⟨_,rfl⟩
 rw [hV] at EV HVb hz
 rw [hC] at EC HCb
 obtain ⟨n,hn⟩:∃n:Nat,C=(n:Int):=⟨C.toNat,by omega⟩
 have hn2:n<2:=by omega
 have EF:c.nD x.s A Bb=Pl.fl (c.r.f/4%2==1) 4+C*17:=by unfold Pl.Mc.nD;rw [EV,EC,hz];simp
 obtain ⟨F,hF⟩:∃F,c.nD x.s A Bb=F:=⟨_,rfl⟩
 rw [hF] at EF
 have HFb:0≤F∧F≤31:=by
  rw [EF,hjf,hn];have q:=Pl.Nb j hj n hn2;exact ⟨q.2.2,q.2.1⟩
 have hcf:bits .or .i64 (bits .and .i64 c.r.f 4) (C*17)=F:=by rw [EF,hjf,hn];exact (Pl.Nb j hj n hn2).1
 have hC0:0≤C:=HCb.1
 have hC1:C≤1:=HCb.2
 have E2:Hid (c.kR x A Bb=(c.aF F).put 1 x.r V):=hide (by unfold Pl.Mc.kR;rw [hq1,hq2,EV,hF];rfl)
 have HVV:=hide HVb
 have HGF:=hide (HG.o.aF HFb.1 HFb.2).g
 have HHV:=hide hV
 have HHC:=hide hC
 clear hV hC EV EC EF hF HFb HCb HVb hn hjf hn2 hj
 obtain ⟨s0,s1,s2,s3,s4,s5,s6,s7,_⟩:=HB.o.cells
 have f0:=HB.o.fz
 clear s0
 go_enter func114,ntmps114
 go_wp2_with fail
 go_region
 go_wp2_with fail
 go_region
 go_wp2_with (first|(go_at_call 154;refine st (jO _ _) ?_;first|rw [hq1]|rw [hq2])|(go_at_call 146;refine st (dF _ _ _) ?_;rw [HXF.o])|(go_at_call 155;refine st (DT _ _ _ _ HX2.o) ?_)|(go_at_call 156;refine st (DR _ _ _ _ HX2.o) ?_;rw [HHV.o,HHC.o]))
 have HBY:=hide ((HB.o.cF (F)).any (ae (ae (ae (Kept.refl 0 0 (X.setCell ⟨p,4,none⟩ (iv (F))))))))
 have HOY:=hide ((HO.o.own (ak _ p 4 (iv (F)))).any (ae (ae (ae (Kept.refl 0 0 (X.setCell ⟨p,4,none⟩ (iv (F))))))))
 have HSY:=hide ((HS.o.set p 4 (iv (F)) HPH.o).drew.drew.drew)
 have HXY:=hide ((HX.o.other p 4 (iv (F)) (by have:=HPB.o;omega)).af (ae (ae (ae (Kept.refl 0 0 (X.setCell ⟨p,4,none⟩ (iv (F))))))))
 have HRY:=hide (MO.reg (r:=(c.aF (F)).r) HOY.o)
 have HMY:Hid (mid≤(X.setCell ⟨p,4,none⟩ (iv (F))).drew.drew.drew.heap.size):=hide (Nat.le_trans HMH.o HOY.o.hh)
 have HPM:=HOY.o.p0
 have HNM:Hid (¬(lo≤w.heap.size∧w.heap.size<mid)):=hide (by have:=HHB.o;have:=HMH.o;omega)
 have HNP:Hid (¬(p≤w.heap.size∧w.heap.size<p+1)):=hide (by have:=HPB.o;omega)
 have SYD:=cellsS HBY.o HXY.o
 go_region_held3 (fun w'=>w'.cell? ⟨p,0,none⟩=some (.slice (some ⟨gd,0,none⟩) 4 cd)∧w'.cell? ⟨p,1,none⟩=some (.slice (some ⟨ga,0,none⟩) 4 ca)∧w'.cell? ⟨p,2,none⟩=some (iv (c.aF (F)).r.o)∧w'.cell? ⟨p,3,none⟩=some (iv (c.aF (F)).r.p)∧w'.cell? ⟨p,4,none⟩=some (iv (c.aF (F)).r.f)∧w'.cell? ⟨p,5,none⟩=some (iv (c.aF (F)).r.m)∧w'.cell? ⟨p,6,none⟩=some (.bool (c.aF (F)).r.s)∧w'.cell? ⟨p,7,none⟩=some (.bool (c.aF (F)).r.t)∧w'.cell? ⟨w.heap.size,1,none⟩=some (iv x.z)∧w'.cell? ⟨w.heap.size,2,none⟩=some (iv x.r)) (first|with_reducible exact SYD|with_reducible exact cellsS aH.o jh.o|exact cellsS (aH.o.laid (Pl.jy (c.aF (F)).r 1 x.r V)) (Blk.kept jh.o (MB.jf _ _ _ _ _ _ _ _) HNP.o)|go_keep) (first|(go_at_call 110;refine (qK _ lo mid gd cd ga ca (c.aF (F)).r 1 x.r V HRY.o HMY.o HGF.o HI.o.r0 HI.o.r1 HVV.o).mono ?_;unfold iQ;rintro e9 W_9 ⟨rfl,hr9,hk9⟩;have jX:=hide (HOY.o.regs hr9 hk9);have aH:=hide (HBY.o.regs hk9 HPM);have jh:=hide (Blk.kept HXY.o hk9 HNM.o);have jW:=hide (HSY.o.ai hk9 (Nat.le_refl _) HMH.o);clear hr9 hk9;obtain ⟨u0,u1,u2,u3,u4,u5,u6,u7,_⟩:=aH.o.cells;have f0:=aH.o.frozen 0;have f1:=aH.o.frozen 1;have f2:=aH.o.frozen 2;have f3:=aH.o.frozen 3;have f4:=aH.o.frozen 4;have f5:=aH.o.frozen 5;have f6:=aH.o.frozen 6;have f7:=aH.o.frozen 7))
 go_wp2_with fail
 first|go_end0|refine bodyPost_ret (results_none rfl _ _ _) rfl ?_
 exact ⟨rfl,g2,by rw [E.o,E2.o];exact MAt.laid aH.o jX.o,fM jW.o HPH.o _ _ _ _ _ _ _ _⟩
theorem FQ (w:World) (lo mid hi p g2:Nat) (c:Pl.Mc) (x:Pl.In) (h:MAt w lo mid hi p g2 c) (G:Pl.GM c) (B:Pl.InB x) (hq1:Pl.bcd (el c.r.xs x.r.toNat%256)=true) (hq2:Pl.bcd (el c.r.xs x.k.toNat%256)=true) (hs:x.s=1) (hz:(Pl.sV c.xOf (el c.r.xs x.r.toNat%256) (el c.r.xs x.k.toNat%256)==0)=false) :
  Calls prog 114 #[.pointer (some ⟨p,0,none⟩),.agg (inX x)] w fun e w'=>e=.returned (.tuple #[])∧∃g3,MAt w' lo mid hi p g3 (c.jB x)∧Since w lo hi g2 w' g3:=by
 have HG:=hide G
 have HI:=hide B
 have HSU:=hide hs
 clear hs
 have hl:=h.lo
 obtain ⟨X,hX,KA,HX,hbw,HHB,HGB,HPH,HPB,HMH,HS,HM⟩:=h.dS x
 obtain ⟨b0,b1,b2,b3,b4,b5,b6⟩:=aG HX.o
 rw [HSU.o] at b6
 clear h
 obtain ⟨gd,cd,ga,ca,g1,c1,c2,HB,HO⟩:=HM.o.op
 have t0:=HB.o.k0
 clear G B
 have r0:=HI.o.r0
 have r1:=HI.o.r1
 have r4:x.r<4:=by omega
 have k0:=HI.o.k0
 have k1:=HI.o.k1
 have k4:x.k<4:=by omega
 have HR4:Hid (x.r.toNat<4):=hide (by omega)
 have HK4:Hid (x.k.toNat<4):=hide (by omega)
 obtain ⟨D1,hD1⟩:∃D,el c.r.xs x.r.toNat=D:=⟨_,rfl⟩
 obtain ⟨D2,hD2⟩:∃D,el c.r.xs x.k.toNat=D:=⟨_,rfl⟩
 obtain ⟨hc1,_⟩:=jL HO.o.d x.r.toNat (by rw [HG.o.g.d4];exact HR4.o)
 obtain ⟨hc2,_⟩:=jL HO.o.d x.k.toNat (by rw [HG.o.g.d4];exact HK4.o)
 rw [hD1] at hc1
 rw [hD2] at hc2
 have m1:=Pl.dP D1
 have m2:=Pl.dP D2
 obtain ⟨A,hA⟩:∃A,D1%256=A:=⟨_,rfl⟩
 obtain ⟨Bb,hB2⟩:∃A,D2%256=A:=⟨_,rfl⟩
 rw [hA] at m1
 rw [hB2] at m2
 have E:Hid (c.jB x=c.kR x A Bb):=hide (by unfold Pl.Mc.jB;rw [hD1,hD2,hA,hB2])
 rw [hD1,hA] at hq1 hz
 rw [hD2,hB2] at hq2 hz
 clear hD1 hD2 hA hB2
 obtain ⟨j,hj,hjf⟩:=Pl.lZ (n:=32) HG.o.g.f0 (by have:=HG.o.g.f1;omega)
 have HXF:Hid (Pl.fl (bits .and .i64 c.r.f 16 != 0) 1=c.xOf):=hide (by unfold Pl.Mc.xOf;rw [hjf];exact Pl.Nh j hj)
 have HX2:Hid (Pl.fF c.xOf A Bb=true):=hide (Pl.lH (by unfold Pl.Mc.xOf;omega) (by unfold Pl.Mc.xOf;omega) hq1 hq2)
 have EV:c.kK x.s A Bb=Pl.sV c.xOf A Bb:=by unfold Pl.Mc.kK;rw [HSU.o];rfl
 have EC:c.lU x.s A Bb=Pl.sC c.xOf A Bb:=by unfold Pl.Mc.lU;rw [HSU.o];rfl
 have HCb:=Pl.Dp c.xOf A Bb
 have HVb:=Pl.qy (Pl.xO HX2.o)
 obtain ⟨V,hV⟩:∃V,Pl.sV c.xOf A Bb=V:=⟨_,rfl⟩
 obtain ⟨C,hC⟩:∃C,Pl.sC c.xOf A Bb=C:=⟨_,rfl⟩
 rw [hV] at EV HVb hz
 rw [hC] at EC HCb
 obtain ⟨n,hn⟩:∃n:Nat,C=(n:Int):=⟨C.toNat,by omega⟩
 have hn2:n<2:=by omega
 have EF:c.nD x.s A Bb=C*17:=by unfold Pl.Mc.nD;rw [EV,EC,hz];simp [Pl.fl]
 obtain ⟨F,hF⟩:∃F,c.nD x.s A Bb=F:=⟨_,rfl⟩
 rw [hF] at EF
 have HFb:0≤F∧F≤31:=by
  rw [EF,hn];omega
 have hcf:bits .or .i64 0 (C*17)=F:=by rw [EF,hn];exact Pl.VM n hn2
 have hC0:0≤C:=HCb.1
 have hC1:C≤1:=HCb.2
 have E2:Hid (c.kR x A Bb=(c.aF F).put 1 x.r V):=hide (by unfold Pl.Mc.kR;rw [hq1,hq2,EV,hF];rfl)
 have HVV:=hide HVb
 have HGF:=hide (HG.o.aF HFb.1 HFb.2).g
 have HHV:=hide hV
 have HHC:=hide hC
 clear hV hC EV EC EF hF HFb HCb HVb hn hjf hn2 hj
 obtain ⟨s0,s1,s2,s3,s4,s5,s6,s7,_⟩:=HB.o.cells
 have f0:=HB.o.fz
 clear s0
 go_enter func114,ntmps114
 go_wp2_with fail
 go_region
 go_wp2_with fail
 go_region
 go_wp2_with (first|(go_at_call 154;refine st (jO _ _) ?_;first|rw [hq1]|rw [hq2])|(go_at_call 146;refine st (dF _ _ _) ?_;rw [HXF.o])|(go_at_call 155;refine st (DT _ _ _ _ HX2.o) ?_)|(go_at_call 156;refine st (DR _ _ _ _ HX2.o) ?_;rw [HHV.o,HHC.o]))
 have HBY:=hide ((HB.o.cF (F)).any (ae (ae (ae (Kept.refl 0 0 (X.setCell ⟨p,4,none⟩ (iv (F))))))))
 have HOY:=hide ((HO.o.own (ak _ p 4 (iv (F)))).any (ae (ae (ae (Kept.refl 0 0 (X.setCell ⟨p,4,none⟩ (iv (F))))))))
 have HSY:=hide ((HS.o.set p 4 (iv (F)) HPH.o).drew.drew.drew)
 have HXY:=hide ((HX.o.other p 4 (iv (F)) (by have:=HPB.o;omega)).af (ae (ae (ae (Kept.refl 0 0 (X.setCell ⟨p,4,none⟩ (iv (F))))))))
 have HRY:=hide (MO.reg (r:=(c.aF (F)).r) HOY.o)
 have HMY:Hid (mid≤(X.setCell ⟨p,4,none⟩ (iv (F))).drew.drew.drew.heap.size):=hide (Nat.le_trans HMH.o HOY.o.hh)
 have HPM:=HOY.o.p0
 have HNM:Hid (¬(lo≤w.heap.size∧w.heap.size<mid)):=hide (by have:=HHB.o;have:=HMH.o;omega)
 have HNP:Hid (¬(p≤w.heap.size∧w.heap.size<p+1)):=hide (by have:=HPB.o;omega)
 have SYD:=cellsS HBY.o HXY.o
 go_region_held3 (fun w'=>w'.cell? ⟨p,0,none⟩=some (.slice (some ⟨gd,0,none⟩) 4 cd)∧w'.cell? ⟨p,1,none⟩=some (.slice (some ⟨ga,0,none⟩) 4 ca)∧w'.cell? ⟨p,2,none⟩=some (iv (c.aF (F)).r.o)∧w'.cell? ⟨p,3,none⟩=some (iv (c.aF (F)).r.p)∧w'.cell? ⟨p,4,none⟩=some (iv (c.aF (F)).r.f)∧w'.cell? ⟨p,5,none⟩=some (iv (c.aF (F)).r.m)∧w'.cell? ⟨p,6,none⟩=some (.bool (c.aF (F)).r.s)∧w'.cell? ⟨p,7,none⟩=some (.bool (c.aF (F)).r.t)∧w'.cell? ⟨w.heap.size,1,none⟩=some (iv x.z)∧w'.cell? ⟨w.heap.size,2,none⟩=some (iv x.r)) (first|with_reducible exact SYD|with_reducible exact cellsS aH.o jh.o|exact cellsS (aH.o.laid (Pl.jy (c.aF (F)).r 1 x.r V)) (Blk.kept jh.o (MB.jf _ _ _ _ _ _ _ _) HNP.o)|go_keep) (first|(go_at_call 110;refine (qK _ lo mid gd cd ga ca (c.aF (F)).r 1 x.r V HRY.o HMY.o HGF.o HI.o.r0 HI.o.r1 HVV.o).mono ?_;unfold iQ;rintro e9 W_9 ⟨rfl,hr9,hk9⟩;have jX:=hide (HOY.o.regs hr9 hk9);have aH:=hide (HBY.o.regs hk9 HPM);have jh:=hide (Blk.kept HXY.o hk9 HNM.o);have jW:=hide (HSY.o.ai hk9 (Nat.le_refl _) HMH.o);clear hr9 hk9;obtain ⟨u0,u1,u2,u3,u4,u5,u6,u7,_⟩:=aH.o.cells;have f0:=aH.o.frozen 0;have f1:=aH.o.frozen 1;have f2:=aH.o.frozen 2;have f3:=aH.o.frozen 3;have f4:=aH.o.frozen 4;have f5:=aH.o.frozen 5;have f6:=aH.o.frozen 6;have f7:=aH.o.frozen 7))
 go_wp2_with fail
 first|go_end0|refine bodyPost_ret (results_none rfl _ _ _) rfl ?_
 exact ⟨rfl,g2,by rw [E.o,E2.o];exact MAt.laid aH.o jX.o,fM jW.o HPH.o _ _ _ _ _ _ _ _⟩
theorem Yq (w:World) (lo mid hi p g2:Nat) (c:Pl.Mc) (x:Pl.In) (h:MAt w lo mid hi p g2 c) (G:Pl.GM c) (B:Pl.InB x) :
  Calls prog 114 #[.pointer (some ⟨p,0,none⟩),.agg (inX x)] w fun e w'=>e=.returned (.tuple #[])∧∃g3,MAt w' lo mid hi p g3 (c.jB x)∧Since w lo hi g2 w' g3:=by
 cases hq1:Pl.bcd (el c.r.xs x.r.toNat%256)
 ·cases hq2:Pl.bcd (el c.r.xs x.k.toNat%256)
  ·exact FX w lo mid hi p g2 c x h G B hq1 hq2
  ·exact FW w lo mid hi p g2 c x h G B hq1 hq2
 ·cases hq2:Pl.bcd (el c.r.xs x.k.toNat%256)
  ·exact FV w lo mid hi p g2 c x h G B hq1 hq2
  ·by_cases hs:x.s=1
   ·cases hz:(Pl.sV c.xOf (el c.r.xs x.r.toNat%256) (el c.r.xs x.k.toNat%256)==0)
    ·exact FQ w lo mid hi p g2 c x h G B hq1 hq2 hs hz
    ·exact FP w lo mid hi p g2 c x h G B hq1 hq2 hs hz
   ·cases hz:(Pl.aV c.xOf (el c.r.xs x.r.toNat%256) (el c.r.xs x.k.toNat%256)==0)
    ·exact FU w lo mid hi p g2 c x h G B hq1 hq2 (by simpa using hs) hz
    ·exact FT w lo mid hi p g2 c x h G B hq1 hq2 (by simpa using hs) hz
namespace Pl
theorem G8 {v:Int} (h:okv 2 v=true):0≤v∧v≤65535:=by simp [okv,top] at h;omega
theorem GM.pop {c:Mc} (h:GM c):GM c.pop:=by
 have a3:=h.g.aw 3 (by omega)
 have q:=h.acc (iO (.inl rfl) a3.1 a3.2)
 unfold Mc.pop
 cases (c.acc 1 2 (el c.r.ys 3) 0).fine
 ·exact q
 ·exact q.fU 3 (by omega) (by omega)
theorem kM {c:Mc} (h:GM c):0≤c.eu∧c.eu≤65535:=by
 have a3:=h.g.aw 3 (by omega)
 exact G8 (h.jI (iO (.inl rfl) a3.1 a3.2))
theorem Qs (a:Int):bits .and .i64 a 1023=a%1024:=by
 show IntKind.i64.wrap ((BitVec.ofInt 64 a &&& BitVec.ofInt 64 1023).toNat:Int)=_
 rw [BitVec.toNat_and,BitVec.toNat_ofInt,show (BitVec.ofInt 64 1023).toNat=2^10-1 from by decide,Nat.and_two_pow_sub_one_eq_mod,IntKind.wrap_i64]
 omega
end Pl
theorem FC (w:World) (lo mid hi p g2:Nat) (c:Pl.Mc) (x:Pl.In) (h:MAt w lo mid hi p g2 c) (G:Pl.GM c) (B:Pl.InB x) (hs:x.s=0) :
  Calls prog 112 #[.pointer (some ⟨p,0,none⟩),.agg (inX x)] w fun e w'=>e=.returned (.tuple #[])∧∃g3,MAt w' lo mid hi p g3 (c.iH x)∧Since w lo hi g2 w' g3:=by
 have HG:=hide G
 have HI:=hide B
 have HSU:=hide hs
 clear hs
 have hl:=h.lo
 obtain ⟨X,hX,KA,HX,hbw,HHB,HGB,HPH,HPB,HMH,HS,HM⟩:=h.dS x
 obtain ⟨b0,b1,b2,b3,b4,b5,b6⟩:=aG HX.o
 rw [HSU.o] at b6
 clear h
 obtain ⟨gd,cd,ga,ca,g1,c1,c2,HB,HO⟩:=HM.o.op
 clear G B
 have E:Hid (c.iH x=c.pop.aK c.eu):=hide (by unfold Pl.Mc.iH;rw [HSU.o];rfl)
 go_enter func112,ntmps112
 go_wp2_with (go_at_call 149;refine (Fp _ lo mid hi p g2 c HM.o HG.o).mono ?_;rintro e9 W_1 ⟨rfl,aW,hm9,hb9⟩;obtain ⟨bu,di,bK⟩:=hb9.nx HX HHB HGB HS;clear hb9;have aY:=hide hm9;obtain ⟨bV,bY,bW,bZ,eX,fA,eY,aZ,bG⟩:=hm9.op;have kF:=aZ.o.k3;have Gj:=aZ.o.frozen 3;clear b0 b1 b2 b3 b4 b5 b6;obtain ⟨b0,b1,b2,b3,b4,b5,b6⟩:=aG bu.o;rw [HSU.o] at b6)
 first|go_end0|refine bodyPost_ret (results_none rfl _ _ _) rfl ?_
 exact ⟨rfl,aW,by rw [E.o];exact aY.o.cP _,bK.o.set p 3 _ HPH.o⟩
theorem BQ (w:World) (lo mid hi p g2:Nat) (c:Pl.Mc) (x:Pl.In) (h:MAt w lo mid hi p g2 c) (G:Pl.GM c) (B:Pl.InB x) (hs:x.s=1) (hf:c.pop.fine=false) :
  Calls prog 112 #[.pointer (some ⟨p,0,none⟩),.agg (inX x)] w fun e w'=>e=.returned (.tuple #[])∧∃g3,MAt w' lo mid hi p g3 (c.iH x)∧Since w lo hi g2 w' g3:=by
 have HG:=hide G
 have HI:=hide B
 have HSU:=hide hs
 clear hs
 have hl:=h.lo
 obtain ⟨X,hX,KA,HX,hbw,HHB,HGB,HPH,HPB,HMH,HS,HM⟩:=h.dS x
 obtain ⟨b0,b1,b2,b3,b4,b5,b6⟩:=aG HX.o
 rw [HSU.o] at b6
 clear h
 obtain ⟨gd,cd,ga,ca,g1,c1,c2,HB,HO⟩:=HM.o.op
 clear G B
 have E:Hid (c.iH x=c.pop):=hide (by unfold Pl.Mc.iH;rw [HSU.o,hf];rfl)
 go_enter func112,ntmps112
 go_wp2_with (first|(go_at_call 149;refine (Fp _ lo mid hi p g2 c HM.o HG.o).mono ?_;rintro e9 W_1 ⟨rfl,aW,hm9,hb9⟩;obtain ⟨bu,di,bK⟩:=hb9.nx HX HHB HGB HS;clear hb9;have aY:=hide hm9;obtain ⟨bV,bY,bW,bZ,eX,fA,eY,aZ,bG⟩:=hm9.op;have kF:=aZ.o.k3;have Gj:=aZ.o.frozen 3;clear b0 b1 b2 b3 b4 b5 b6;obtain ⟨b0,b1,b2,b3,b4,b5,b6⟩:=aG bu.o;rw [HSU.o] at b6)|(go_at_call 68;refine st (bT _ lo mid hi p aW _ aY.o) ?_;rw [hf]))
 first|go_end0|refine bodyPost_ret (results_none rfl _ _ _) rfl ?_
 exact ⟨rfl,aW,by rw [E.o];exact aY.o,bK.o⟩
theorem BP (w:World) (lo mid hi p g2:Nat) (c:Pl.Mc) (x:Pl.In) (h:MAt w lo mid hi p g2 c) (G:Pl.GM c) (B:Pl.InB x) (hs:x.s=1) (hf:c.pop.fine=true) (hf2:c.pop.pop.fine=false) :
  Calls prog 112 #[.pointer (some ⟨p,0,none⟩),.agg (inX x)] w fun e w'=>e=.returned (.tuple #[])∧∃g3,MAt w' lo mid hi p g3 (c.iH x)∧Since w lo hi g2 w' g3:=by
 have HG:=hide G
 have HI:=hide B
 have HSU:=hide hs
 clear hs
 have hl:=h.lo
 obtain ⟨X,hX,KA,HX,hbw,HHB,HGB,HPH,HPB,HMH,HS,HM⟩:=h.dS x
 obtain ⟨b0,b1,b2,b3,b4,b5,b6⟩:=aG HX.o
 rw [HSU.o] at b6
 clear h
 obtain ⟨gd,cd,ga,ca,g1,c1,c2,HB,HO⟩:=HM.o.op
 clear G B
 have E:Hid (c.iH x=c.pop.pop):=hide (by unfold Pl.Mc.iH;rw [HSU.o,hf,hf2];rfl)
 have HG1:=hide HG.o.pop
 have HG2:=hide HG1.o.pop
 have HP:=Pl.kM HG.o
 have HP2:=Pl.kM HG1.o
 go_enter func112,ntmps112
 go_wp2_with (first|(go_at_call 149;have z9:=aY;refine (Fp _ lo mid hi p aW c.pop aY.o HG1.o).mono ?_;rintro e9 W_2 ⟨rfl,lw,hm9,hb9⟩;obtain ⟨dU,qp,iq⟩:=hb9.nx bu HHB di bK;clear hb9;have iy:=hide hm9;obtain ⟨wO,wR,wP,wS,yx,yR,yQ,aP,iE⟩:=hm9.op;obtain ⟨xK,xJ,xI,uV,sN,xH,xG,xE⟩:=aP.o.c8;have yH:=aP.o.frozen 0;have yG:=aP.o.frozen 1;have yF:=aP.o.frozen 2;have vW:=aP.o.frozen 3;have tY:=aP.o.frozen 4;have yE:=aP.o.frozen 5;have yD:=aP.o.frozen 6;have yC:=aP.o.frozen 7;clear b0 b1 b2 b3 b4 b5 b6;obtain ⟨b0,b1,b2,b3,b4,b5,b6⟩:=aG dU.o;rw [HSU.o] at b6)|(go_at_call 68;have z9:=iy;refine st (bT _ lo mid hi p lw _ iy.o) ?_;rw [hf2])|(go_at_call 149;refine (Fp _ lo mid hi p g2 c HM.o HG.o).mono ?_;rintro e9 W_1 ⟨rfl,aW,hm9,hb9⟩;obtain ⟨bu,di,bK⟩:=hb9.nx HX HHB HGB HS;clear hb9;have aY:=hide hm9;obtain ⟨bV,bY,bW,bZ,eX,fA,eY,aZ,bG⟩:=hm9.op;have kF:=aZ.o.k3;have Gj:=aZ.o.frozen 3;clear b0 b1 b2 b3 b4 b5 b6;obtain ⟨b0,b1,b2,b3,b4,b5,b6⟩:=aG bu.o;rw [HSU.o] at b6)|(go_at_call 68;refine st (bT _ lo mid hi p aW _ aY.o) ?_;rw [hf]))
 first|go_end0|refine bodyPost_ret (results_none rfl _ _ _) rfl ?_
 exact ⟨rfl,lw,by rw [E.o];exact iy.o,iq.o⟩
theorem FD (w:World) (lo mid hi p g2:Nat) (c:Pl.Mc) (x:Pl.In) (h:MAt w lo mid hi p g2 c) (G:Pl.GM c) (B:Pl.InB x) (hs:x.s=1) (hf:c.pop.fine=true) (hf2:c.pop.pop.fine=true) :
  Calls prog 112 #[.pointer (some ⟨p,0,none⟩),.agg (inX x)] w fun e w'=>e=.returned (.tuple #[])∧∃g3,MAt w' lo mid hi p g3 (c.iH x)∧Since w lo hi g2 w' g3:=by
 have HG:=hide G
 have HI:=hide B
 have HSU:=hide hs
 clear hs
 have hl:=h.lo
 obtain ⟨X,hX,KA,HX,hbw,HHB,HGB,HPH,HPB,HMH,HS,HM⟩:=h.dS x
 obtain ⟨b0,b1,b2,b3,b4,b5,b6⟩:=aG HX.o
 rw [HSU.o] at b6
 clear h
 obtain ⟨gd,cd,ga,ca,g1,c1,c2,HB,HO⟩:=HM.o.op
 clear G B
 have E:Hid (c.iH x=(c.pop.pop.aK c.pop.eu).dB (Pl.bQ (c.pop.pop.aK c.pop.eu).r (c.eu%1024))):=hide (by unfold Pl.Mc.iH;rw [HSU.o,hf,hf2];rfl)
 have HG1:=hide HG.o.pop
 have HG2:=hide HG1.o.pop
 have HP:=Pl.kM HG.o
 have HP2:=Pl.kM HG1.o
 have hmm:=Pl.Qs c.eu
 have HGP:=hide (HG2.o.aK HP2.1 HP2.2).g
 have HW:=fun gd cd ga ca w9 hr hh=>G6 w9 lo mid gd cd ga ca (c.pop.pop.aK c.pop.eu).r (c.eu%1024) hr hh HGP.o (by omega) (by omega)
 obtain ⟨R,hR⟩:∃R,Pl.bQ (c.pop.pop.aK c.pop.eu).r (c.eu%1024)=R:=⟨_,rfl⟩
 rw [hR] at E
 simp only [hR,iQ] at HW
 clear hR
 go_enter func112,ntmps112
 go_wp2_with (first|(go_at_call 80;have z9:=iy;refine (HW wO wR wP wS _ HRY.o HMY.o).mono ?_;rintro e9 W_9 ⟨rfl,hr9,hk9⟩;have jX:=hide (HOY.o.regs hr9 hk9);have aH:=hide (HBY.o.regs hk9 iE.o.p0);have jW:=hide (HSY.o.ai hk9 (Nat.le_refl _) HMH.o);clear hr9 hk9;obtain ⟨u0,u1,u2,u3,u4,u5,u6,u7,_⟩:=aH.o.cells;have q0:=aH.o.frozen 0;have q1:=aH.o.frozen 1;have q2:=aH.o.frozen 2;have q3:=aH.o.frozen 3;have q4:=aH.o.frozen 4;have q5:=aH.o.frozen 5;have q6:=aH.o.frozen 6;have q7:=aH.o.frozen 7)|(go_at_call 149;have z9:=aY;refine (Fp _ lo mid hi p aW c.pop aY.o HG1.o).mono ?_;rintro e9 W_2 ⟨rfl,lw,hm9,hb9⟩;obtain ⟨dU,qp,iq⟩:=hb9.nx bu HHB di bK;clear hb9;have iy:=hide hm9;obtain ⟨wO,wR,wP,wS,yx,yR,yQ,aP,iE⟩:=hm9.op;obtain ⟨xK,xJ,xI,uV,sN,xH,xG,xE⟩:=aP.o.c8;have yH:=aP.o.frozen 0;have yG:=aP.o.frozen 1;have yF:=aP.o.frozen 2;have vW:=aP.o.frozen 3;have tY:=aP.o.frozen 4;have yE:=aP.o.frozen 5;have yD:=aP.o.frozen 6;have yC:=aP.o.frozen 7;clear b0 b1 b2 b3 b4 b5 b6;obtain ⟨b0,b1,b2,b3,b4,b5,b6⟩:=aG dU.o;rw [HSU.o] at b6;have HBY:=hide (aP.o.cP c.pop.eu);have HOY:=hide (iE.o.own (ak W_2 p 3 (iv c.pop.eu)));have HSY:=hide (iq.o.set p 3 (iv c.pop.eu) HPH.o);have HRY:=hide (MO.reg (r:=(c.pop.pop.aK c.pop.eu).r) HOY.o);have HMY:Hid (mid≤(W_2.setCell ⟨p,3,none⟩ (iv c.pop.eu)).heap.size):=hide (Nat.le_trans HMH.o HOY.o.hh))|(go_at_call 68;have z9:=iy;refine st (bT _ lo mid hi p lw _ iy.o) ?_;rw [hf2])|(go_at_call 149;refine (Fp _ lo mid hi p g2 c HM.o HG.o).mono ?_;rintro e9 W_1 ⟨rfl,aW,hm9,hb9⟩;obtain ⟨bu,di,bK⟩:=hb9.nx HX HHB HGB HS;clear hb9;have aY:=hide hm9;obtain ⟨bV,bY,bW,bZ,eX,fA,eY,aZ,bG⟩:=hm9.op;have kF:=aZ.o.k3;have Gj:=aZ.o.frozen 3;clear b0 b1 b2 b3 b4 b5 b6;obtain ⟨b0,b1,b2,b3,b4,b5,b6⟩:=aG bu.o;rw [HSU.o] at b6)|(go_at_call 68;refine st (bT _ lo mid hi p aW _ aY.o) ?_;rw [hf]))
 first|go_end0|refine bodyPost_ret (results_none rfl _ _ _) rfl ?_
 exact ⟨rfl,lw,by rw [E.o];exact MAt.laid aH.o jX.o,fM jW.o HPH.o _ _ _ _ _ _ _ _⟩
theorem FH (w:World) (lo mid hi p g2:Nat) (c:Pl.Mc) (x:Pl.In) (h:MAt w lo mid hi p g2 c) (G:Pl.GM c) (B:Pl.InB x) (hs:x.s=2) :
  Calls prog 112 #[.pointer (some ⟨p,0,none⟩),.agg (inX x)] w fun e w'=>e=.returned (.tuple #[])∧∃g3,MAt w' lo mid hi p g3 (c.iH x)∧Since w lo hi g2 w' g3:=by
 have HG:=hide G
 have HI:=hide B
 have HSU:=hide hs
 clear hs
 have hl:=h.lo
 obtain ⟨X,hX,KA,HX,hbw,HHB,HGB,HPH,HPB,HMH,HS,HM⟩:=h.dS x
 obtain ⟨b0,b1,b2,b3,b4,b5,b6⟩:=aG HX.o
 rw [HSU.o] at b6
 clear h
 obtain ⟨gd,cd,ga,ca,g1,c1,c2,HB,HO⟩:=HM.o.op
 clear G B
 have E:Hid (c.iH x=c):=hide (by unfold Pl.Mc.iH;rw [HSU.o];rfl)
 go_enter func112,ntmps112
 go_wp2_with fail
 first|go_end0|refine bodyPost_ret (results_none rfl _ _ _) rfl ?_
 exact ⟨rfl,g2,by rw [E.o];exact HM.o,HS.o⟩
theorem BI (w:World) (lo mid hi p g2:Nat) (c:Pl.Mc) (x:Pl.In) (h:MAt w lo mid hi p g2 c) (G:Pl.GM c) (B:Pl.InB x) (hs:x.s=4) :
  Calls prog 112 #[.pointer (some ⟨p,0,none⟩),.agg (inX x)] w fun e w'=>e=.returned (.tuple #[])∧∃g3,MAt w' lo mid hi p g3 (c.iH x)∧Since w lo hi g2 w' g3:=by
 have HG:=hide G
 have HI:=hide B
 have HSU:=hide hs
 clear hs
 have hl:=h.lo
 obtain ⟨X,hX,KA,HX,hbw,HHB,HGB,HPH,HPB,HMH,HS,HM⟩:=h.dS x
 obtain ⟨b0,b1,b2,b3,b4,b5,b6⟩:=aG HX.o
 rw [HSU.o] at b6
 clear h
 obtain ⟨gd,cd,ga,ca,g1,c1,c2,HB,HO⟩:=HM.o.op
 clear G B
 have E:Hid (c.iH x=c.raise (18+x.r)):=hide (by unfold Pl.Mc.iH;rw [HSU.o];rfl)
 have r0:=HI.o.r0
 have r1:=HI.o.r1
 go_enter func112,ntmps112
 go_wp2_with (go_at_call 150;refine (Jm _ lo mid hi p g2 c (18+x.r) HM.o).mono ?_;rintro e9 W_1 ⟨rfl,aW,hm9,hb9⟩;obtain ⟨bu,di,bK⟩:=hb9.nx HX HHB HGB HS;clear hb9;have aY:=hide hm9;obtain ⟨bV,bY,bW,bZ,eX,fA,eY,aZ,bG⟩:=hm9.op;clear b0 b1 b2 b3 b4 b5 b6;obtain ⟨b0,b1,b2,b3,b4,b5,b6⟩:=aG bu.o;rw [HSU.o] at b6)
 first|go_end0|refine bodyPost_ret (results_none rfl _ _ _) rfl ?_
 exact ⟨rfl,aW,by rw [E.o];exact aY.o,bK.o⟩
theorem BJ (w:World) (lo mid hi p g2:Nat) (c:Pl.Mc) (x:Pl.In) (h:MAt w lo mid hi p g2 c) (G:Pl.GM c) (B:Pl.InB x) (hs:x.s=5) :
  Calls prog 112 #[.pointer (some ⟨p,0,none⟩),.agg (inX x)] w fun e w'=>e=.returned (.tuple #[])∧∃g3,MAt w' lo mid hi p g3 (c.iH x)∧Since w lo hi g2 w' g3:=by
 have HG:=hide G
 have HI:=hide B
 have HSU:=hide hs
 clear hs
 have hl:=h.lo
 obtain ⟨X,hX,KA,HX,hbw,HHB,HGB,HPH,HPB,HMH,HS,HM⟩:=h.dS x
 obtain ⟨b0,b1,b2,b3,b4,b5,b6⟩:=aG HX.o
 rw [HSU.o] at b6
 clear h
 obtain ⟨gd,cd,ga,ca,g1,c1,c2,HB,HO⟩:=HM.o.op
 have t0:=HB.o.k0
 clear G B
 have r0:=HI.o.r0
 have r1:=HI.o.r1
 have r4:x.r<4:=by omega
 have HR4:Hid (x.r.toNat<4):=hide (by omega)
 obtain ⟨D,hD⟩:∃D,el c.r.xs x.r.toNat=D:=⟨_,rfl⟩
 obtain ⟨hc1,_⟩:=jL HO.o.d x.r.toNat (by rw [HG.o.g.d4];exact HR4.o)
 have hDb:=HG.o.g.dw x.r.toNat HR4.o
 rw [hD] at hc1 hDb
 obtain ⟨V,hVV⟩:∃V,Pl.lW D=V:=⟨_,rfl⟩
 have E:Hid (c.iH x=c.data 2 x.r V):=hide (by unfold Pl.Mc.iH;rw [HSU.o,hD,hVV];rfl)
 have HVV:Hid (Pl.okv 2 V=true):=hide (by rw [←hVV];unfold Pl.lW;split<;>simp [Pl.okv,Pl.top]<;>omega)
 have HHV:=hide hVV
 clear hD hVV
 have KD:=hide (ae (Kept.refl 0 0 X))
 have HM_D:=hide (HM.o.any KD.o)
 have HX_D:=hide (HX.o.af KD.o)
 have HGB_D:=HGB
 have HS_D:=hide HS.o.drew
 go_enter func112,ntmps112
 go_wp2_with fail
 go_region_held3 (fun w'=>w'.cell? ⟨p,0,none⟩=some (.slice (some ⟨gd,0,none⟩) 4 cd)∧w'.cell? ⟨w.heap.size,2,none⟩=some (iv x.r)∧w'.cell? ⟨gd,x.r.toNat,none⟩=some (iv D)) (first|go_keep) (first|(go_at_call 151;refine st (wL _ _) ?_;rw [HHV.o]))
 go_wp2_with (go_at_call 152;refine (DK _ lo mid hi p g2 c 2 x.r V HM_D.o HG.o HI.o.r0 HI.o.r1 HVV.o).mono ?_;rintro e9 W_1 ⟨rfl,aW,hm9,hb9⟩;obtain ⟨bu,di,bK⟩:=hb9.nx HX_D HHB HGB_D HS_D;clear hb9;have aY:=hide hm9;obtain ⟨bV,bY,bW,bZ,eX,fA,eY,aZ,bG⟩:=hm9.op;clear b0 b1 b2 b3 b4 b5 b6;obtain ⟨b0,b1,b2,b3,b4,b5,b6⟩:=aG bu.o;rw [HSU.o] at b6)
 first|go_end0|refine bodyPost_ret (results_none rfl _ _ _) rfl ?_
 exact ⟨rfl,aW,by rw [E.o];exact aY.o,bK.o⟩
theorem FI (w:World) (lo mid hi p g2:Nat) (c:Pl.Mc) (x:Pl.In) (h:MAt w lo mid hi p g2 c) (G:Pl.GM c) (B:Pl.InB x) (hs:x.s=6) :
  Calls prog 112 #[.pointer (some ⟨p,0,none⟩),.agg (inX x)] w fun e w'=>e=.returned (.tuple #[])∧∃g3,MAt w' lo mid hi p g3 (c.iH x)∧Since w lo hi g2 w' g3:=by
 have HG:=hide G
 have HI:=hide B
 have HSU:=hide hs
 clear hs
 have hl:=h.lo
 obtain ⟨X,hX,KA,HX,hbw,HHB,HGB,HPH,HPB,HMH,HS,HM⟩:=h.dS x
 obtain ⟨b0,b1,b2,b3,b4,b5,b6⟩:=aG HX.o
 rw [HSU.o] at b6
 clear h
 obtain ⟨gd,cd,ga,ca,g1,c1,c2,HB,HO⟩:=HM.o.op
 have t0:=HB.o.k0
 clear G B
 have r0:=HI.o.r0
 have r1:=HI.o.r1
 have r4:x.r<4:=by omega
 have HR4:Hid (x.r.toNat<4):=hide (by omega)
 obtain ⟨D,hD⟩:∃D,el c.r.xs x.r.toNat=D:=⟨_,rfl⟩
 obtain ⟨hc1,_⟩:=jL HO.o.d x.r.toNat (by rw [HG.o.g.d4];exact HR4.o)
 have hDb:=HG.o.g.dw x.r.toNat HR4.o
 rw [hD] at hc1 hDb
 have m1:=Pl.dP D
 obtain ⟨V,hVV⟩:∃V,Pl.ni (D%256)=V:=⟨_,rfl⟩
 have E:Hid (c.iH x=c.data 2 x.r V):=hide (by unfold Pl.Mc.iH;rw [HSU.o,hD,hVV];rfl)
 have HVV:Hid (Pl.okv 2 V=true):=hide (by rw [←hVV];unfold Pl.ni;split<;>simp [Pl.okv,Pl.top]<;>omega)
 have HHV:=hide hVV
 clear hD hVV
 have KD:=hide (ae (Kept.refl 0 0 X))
 have HM_D:=hide (HM.o.any KD.o)
 have HX_D:=hide (HX.o.af KD.o)
 have HGB_D:=HGB
 have HS_D:=hide HS.o.drew
 go_enter func112,ntmps112
 go_wp2_with fail
 go_region_held3 (fun w'=>w'.cell? ⟨p,0,none⟩=some (.slice (some ⟨gd,0,none⟩) 4 cd)∧w'.cell? ⟨w.heap.size,2,none⟩=some (iv x.r)∧w'.cell? ⟨gd,x.r.toNat,none⟩=some (iv D)) (first|go_keep) (first|(go_at_call 153;refine st (uZ _ _) ?_;rw [HHV.o]))
 go_wp2_with (go_at_call 152;refine (DK _ lo mid hi p g2 c 2 x.r V HM_D.o HG.o HI.o.r0 HI.o.r1 HVV.o).mono ?_;rintro e9 W_1 ⟨rfl,aW,hm9,hb9⟩;obtain ⟨bu,di,bK⟩:=hb9.nx HX_D HHB HGB_D HS_D;clear hb9;have aY:=hide hm9;obtain ⟨bV,bY,bW,bZ,eX,fA,eY,aZ,bG⟩:=hm9.op;clear b0 b1 b2 b3 b4 b5 b6;obtain ⟨b0,b1,b2,b3,b4,b5,b6⟩:=aG bu.o;rw [HSU.o] at b6)
 first|go_end0|refine bodyPost_ret (results_none rfl _ _ _) rfl ?_
 exact ⟨rfl,aW,by rw [E.o];exact aY.o,bK.o⟩
theorem BK (w:World) (lo mid hi p g2:Nat) (c:Pl.Mc) (x:Pl.In) (h:MAt w lo mid hi p g2 c) (G:Pl.GM c) (B:Pl.InB x) (hs:x.s=3) (e3:x.e≤1023) :
  Calls prog 112 #[.pointer (some ⟨p,0,none⟩),.agg (inX x)] w fun e w'=>e=.returned (.tuple #[])∧∃g3,MAt w' lo mid hi p g3 (c.iH x)∧Since w lo hi g2 w' g3:=by
 have HG:=hide G
 have HI:=hide B
 have HSU:=hide hs
 clear hs
 have hl:=h.lo
 obtain ⟨X,hX,KA,HX,hbw,HHB,HGB,HPH,HPB,HMH,HS,HM⟩:=h.dS x
 obtain ⟨b0,b1,b2,b3,b4,b5,b6⟩:=aG HX.o
 rw [HSU.o] at b6
 clear h
 obtain ⟨gd,cd,ga,ca,g1,c1,c2,HB,HO⟩:=HM.o.op
 obtain ⟨t0,t1,t2,t3,t4,t5,t6,t7⟩:=HB.o.c8
 clear G B
 have E:Hid (c.iH x={c.dB (Pl.bQ c.r x.e) with st:=true}):=hide (by unfold Pl.Mc.iH;rw [HSU.o];rfl)
 have HW:=fun w9 hr hh=>G6 w9 lo mid gd cd ga ca c.r x.e hr hh HG.o.g HI.o.e0 e3
 obtain ⟨R,hR⟩:∃R,Pl.bQ c.r x.e=R:=⟨_,rfl⟩
 rw [hR] at E
 simp only [hR,iQ] at HW
 clear hR
 have HOY:=hide (HO.o.any (ae (Kept.refl 0 0 X)))
 have HBY:=hide (HB.o.any (ae (Kept.refl 0 0 X)))
 have HSY:=hide HS.o.drew
 have HRY:=hide (MO.reg (r:=c.r) HOY.o)
 have HMY:Hid (mid≤X.drew.heap.size):=hide (Nat.le_trans HMH.o HOY.o.hh)
 have HPM:=HOY.o.p0
 go_enter func112,ntmps112
 go_wp2_with fail
 go_region_with (go_at_call 80;refine (HW _ HRY.o HMY.o).mono ?_;rintro e9 W_9 ⟨rfl,hr9,hk9⟩;have jX:=hide (HOY.o.regs hr9 hk9);have aH:=hide (HBY.o.regs hk9 HPM);have jW:=hide (HSY.o.ai hk9 (Nat.le_refl _) HMH.o);clear hr9 hk9 t0 t1 t2 t3 t4 t5 t6 t7;obtain ⟨u0,u1,u2,u3,u4,u5,u6,u7,u8,u9,u10,_⟩:=aH.o.cells;have q0:=aH.o.frozen 0;have q1:=aH.o.frozen 1;have q2:=aH.o.frozen 2;have q3:=aH.o.frozen 3;have q4:=aH.o.frozen 4;have q5:=aH.o.frozen 5;have q6:=aH.o.frozen 6;have q7:=aH.o.frozen 7;have q10:=aH.o.frozen 10)
 all_goals
  go_wp2_with fail
  first|go_end0|refine bodyPost_ret (results_none rfl _ _ _) rfl ?_
  exact ⟨rfl,g2,by rw [E.o];exact (MAt.laid aH.o jX.o).cSt true,(fM jW.o HPH.o _ _ _ _ _ _ _ _).set p 10 _ HPH.o⟩
theorem V4 (w:World) (lo mid hi p g2:Nat) (c:Pl.Mc) (x:Pl.In) (h:MAt w lo mid hi p g2 c) (G:Pl.GM c) (B:Pl.InB x) (hs:x.s≤6) (e3:x.s=3→x.e≤1023) :
  Calls prog 112 #[.pointer (some ⟨p,0,none⟩),.agg (inX x)] w fun e w'=>e=.returned (.tuple #[])∧∃g3,MAt w' lo mid hi p g3 (c.iH x)∧Since w lo hi g2 w' g3:=by
 have s0:=B.s0
 have hc:x.s=0∨x.s=1∨x.s=2∨x.s=3∨x.s=4∨x.s=5∨x.s=6:=by omega
 rcases hc with q|q|q|q|q|q|q
 ·exact FC w lo mid hi p g2 c x h G B q
 ·cases hf:c.pop.fine
  ·exact BQ w lo mid hi p g2 c x h G B q hf
  ·cases hf2:c.pop.pop.fine
   ·exact BP w lo mid hi p g2 c x h G B q hf hf2
   ·exact FD w lo mid hi p g2 c x h G B q hf hf2
 ·exact FH w lo mid hi p g2 c x h G B q
 ·exact BK w lo mid hi p g2 c x h G B q (e3 q)
 ·exact BI w lo mid hi p g2 c x h G B q
 ·exact BJ w lo mid hi p g2 c x h G B q
 ·exact FI w lo mid hi p g2 c x h G B q
theorem Hw (c:Int) (j:Nat) (hj:j<32) (w:World) (hc:c=0∨c=2∨c=4∨c=6∨c=8∨c=10∨c=12∨c=14) :
  Calls prog 184 #[iv c,iv (j:Int)] w fun e w'=>e=.returned (.bool (Pl.ev c j))∧w'=w:=by
 have HC:=hide (Pl.WV j hj)
 have HV:=hide (Pl.WT j hj)
 have HZ:=hide (Pl.WS j hj)
 have HN:=hide (Pl.WU j hj)
 have HX:=hide (Pl.UH j hj)
 rcases hc with rfl|rfl|rfl|rfl|rfl|rfl|rfl|rfl
 ·go_enter func184,ntmps184
  go_wp2
  go_ret
  exact ⟨rB rfl,rfl⟩
 ·go_enter func184,ntmps184
  go_wp2
  go_ret
  exact ⟨rB (by rw [HX.o];rfl),rfl⟩
 ·go_enter func184,ntmps184
  go_wp2
  go_ret
  exact ⟨rB (by rw [HC.o];rfl),rfl⟩
 ·go_enter func184,ntmps184
  go_wp2
  go_ret
  exact ⟨rB (by rw [HZ.o];rfl),rfl⟩
 ·go_enter func184,ntmps184
  go_wp2
  go_ret
  exact ⟨rB (by rw [HV.o];rfl),rfl⟩
 ·go_enter func184,ntmps184
  go_wp2
  go_ret
  exact ⟨rB (by rw [HN.o];rfl),rfl⟩
 ·go_enter func184,ntmps184
  go_wp2
  go_ret
  exact ⟨rB (by simp only [bne,HN.o,HV.o];simp [Pl.ev]),rfl⟩
 ·cases hl:((bits .and .i64 (j:Int) 8 != 0)==(bits .and .i64 (j:Int) 2 != 0))
  ·go_enter func184,ntmps184
   go_wp2
   go_ret
   exact ⟨rB (by simp only [bne,HN.o,HV.o] at hl;simp [Pl.ev];simp at hl;simp [hl]),rfl⟩
  ·go_enter func184,ntmps184
   go_wp2
   go_ret
   exact ⟨rB (by simp only [bne,HN.o,HV.o] at hl;rw [HZ.o];simp [Pl.ev];simp at hl;simp [hl]),rfl⟩
theorem NG (k j:Nat) (hk:k<16) (hj:j<32) (w:World) :
  Calls prog 148 #[iv (k:Int),iv (j:Int)] w fun e w'=>e=.returned (.bool (Pl.tst k j))∧w'=w:=by
 have hE:=Pl.MG k hk
 have hO:=Pl.and1 (k:Int)
 go_enter func148,ntmps148
 go_wp2_with (go_at_call 184;refine st (Hw _ j hj _ (by omega)) ?_)
 go_ret
 exact ⟨rB (by unfold Pl.tst;rfl),rfl⟩
theorem DL {k f:Int} (w:World) (k0:0≤k) (k1:k≤15) (f0:0≤f) (f1:f≤31):Calls prog 148 #[iv k,iv f] w fun e w'=>e=.returned (.bool (Pl.tst k f))∧w'=w:=by
 obtain ⟨n,hn,rfl⟩:=Pl.lZ (n:=16) k0 (by omega)
 obtain ⟨j,hj,rfl⟩:=Pl.lZ (n:=32) f0 (by omega)
 exact NG n j hn hj w
theorem Pl.GM.push {c:Pl.Mc} (h:Pl.GM c) {v:Int} (v0:0≤v) (v1:v≤65535):Pl.GM (c.push v):=by
 have q:=h.acc (Pl.wG (c:=c) v0 v1)
 unfold Pl.Mc.push
 cases (c.acc 2 2 c.spA v).fine
 ·exact q
 ·exact q.fU 3 (by unfold Pl.Mc.spA;omega) (by unfold Pl.Mc.spA;omega)
theorem Fz (w:World) (lo mid hi p g2:Nat) (c:Pl.Mc) (x:Pl.In) (t:Int) (h:MAt w lo mid hi p g2 c) (G:Pl.GM c) (B:Pl.InB x) (ho:x.op=13) (r2:x.r≤1) (t0:0≤t) (t1:t≤65535) (hb:Pl.tst (x.s+8*x.r) c.r.f=true) :
  Calls prog 111 #[.pointer (some ⟨p,0,none⟩),.agg (inX x),iv t] w fun e w'=>e=.returned (.tuple #[])∧∃g3,MAt w' lo mid hi p g3 (c.jump x t)∧Since w lo hi g2 w' g3:=by
 have HG:=hide G
 have HI:=hide B
 have HOP:=hide ho
 clear ho
 have hl:=h.lo
 obtain ⟨X,hX,KA,HX,hbw,HHB,HGB,HPH,HPB,HMH,HS,HM⟩:=h.dS x
 obtain ⟨b0,b1,b2,b3,b4,b5,b6⟩:=aG HX.o
 rw [HOP.o] at b0
 clear h
 obtain ⟨gd,cd,ga,ca,g1,c1,c2,HB,HO⟩:=HM.o.op
 have t3:=HB.o.k3
 have t4:=HB.o.k4
 have f3:=HB.o.frozen 3
 clear G B
 have E:Hid (c.jump x t=c.aK ((t+2+x.e)%65536)):=hide (by unfold Pl.Mc.jump;rw [HOP.o,hb];rfl)
 have s0:=HI.o.s0
 have s1:=HI.o.s1
 have r0:=HI.o.r0
 have e0:=HI.o.e0
 have e1:=HI.o.e1
 have hm:=mg (t+2+x.e)
 have HL:=fun w9=>DL (k:=x.s+8*x.r) (f:=c.r.f) w9 (by omega) (by omega) HG.o.g.f0 HG.o.g.f1
 rw [hb] at HL
 have hw1:IntKind.i64.wrap (8*x.r)=8*x.r:=by rw [IntKind.wrap_i64];omega
 have hw2:IntKind.i64.wrap (x.s+8*x.r)=x.s+8*x.r:=by rw [IntKind.wrap_i64];omega
 have HL2:∀w9:World,Calls prog 148 #[iv (IntKind.i64.wrap (x.s+IntKind.i64.wrap (8*x.r))),iv c.r.f] w9 fun e w'=>e=.returned (.bool true)∧w'=w9:=by
  intro w9;rw [hw1,hw2];exact HL w9
 have HLL:=hide HL2
 clear hw1 hw2 HL HL2
 have KD:=hide (ae (Kept.refl 0 0 X))
 have HM_D:=hide (HM.o.any KD.o)
 have HS_D:=hide HS.o.drew
 go_enter func111,ntmps111
 go_wp2_with fail
 go_region_held3 (fun w'=>w'.cell? ⟨p,4,none⟩=some (iv c.r.f)∧w'.cell? ⟨w.heap.size,6,none⟩=some (iv x.s)∧w'.cell? ⟨w.heap.size,2,none⟩=some (iv x.r)) (first|go_keep) (first|(go_at_call 148;refine st (HLL.o _) ?_))
 go_wp2_with fail
 first|go_end0|refine bodyPost_ret (results_none rfl _ _ _) rfl ?_
 exact ⟨rfl,g2,by rw [E.o];exact (HM.o.cP _).drew,(HS.o.set p 3 _ HPH.o).drew⟩
theorem FB (w:World) (lo mid hi p g2:Nat) (c:Pl.Mc) (x:Pl.In) (t:Int) (h:MAt w lo mid hi p g2 c) (G:Pl.GM c) (B:Pl.InB x) (ho:x.op=13) (r2:x.r≤1) (t0:0≤t) (t1:t≤65535) (hb:Pl.tst (x.s+8*x.r) c.r.f=false) :
  Calls prog 111 #[.pointer (some ⟨p,0,none⟩),.agg (inX x),iv t] w fun e w'=>e=.returned (.tuple #[])∧∃g3,MAt w' lo mid hi p g3 (c.jump x t)∧Since w lo hi g2 w' g3:=by
 have HG:=hide G
 have HI:=hide B
 have HOP:=hide ho
 clear ho
 have hl:=h.lo
 obtain ⟨X,hX,KA,HX,hbw,HHB,HGB,HPH,HPB,HMH,HS,HM⟩:=h.dS x
 obtain ⟨b0,b1,b2,b3,b4,b5,b6⟩:=aG HX.o
 rw [HOP.o] at b0
 clear h
 obtain ⟨gd,cd,ga,ca,g1,c1,c2,HB,HO⟩:=HM.o.op
 have t3:=HB.o.k3
 have t4:=HB.o.k4
 have f3:=HB.o.frozen 3
 clear G B
 have E:Hid (c.jump x t=c):=hide (by unfold Pl.Mc.jump;rw [HOP.o,hb];rfl)
 have s0:=HI.o.s0
 have s1:=HI.o.s1
 have r0:=HI.o.r0
 have e0:=HI.o.e0
 have e1:=HI.o.e1
 have hm:=mg (t+2+x.e)
 have HL:=fun w9=>DL (k:=x.s+8*x.r) (f:=c.r.f) w9 (by omega) (by omega) HG.o.g.f0 HG.o.g.f1
 rw [hb] at HL
 have hw1:IntKind.i64.wrap (8*x.r)=8*x.r:=by rw [IntKind.wrap_i64];omega
 have hw2:IntKind.i64.wrap (x.s+8*x.r)=x.s+8*x.r:=by rw [IntKind.wrap_i64];omega
 have HL2:∀w9:World,Calls prog 148 #[iv (IntKind.i64.wrap (x.s+IntKind.i64.wrap (8*x.r))),iv c.r.f] w9 fun e w'=>e=.returned (.bool false)∧w'=w9:=by
  intro w9;rw [hw1,hw2];exact HL w9
 have HLL:=hide HL2
 clear hw1 hw2 HL HL2
 have KD:=hide (ae (Kept.refl 0 0 X))
 have HM_D:=hide (HM.o.any KD.o)
 have HS_D:=hide HS.o.drew
 go_enter func111,ntmps111
 go_wp2_with fail
 go_region_held3 (fun w'=>w'.cell? ⟨p,4,none⟩=some (iv c.r.f)∧w'.cell? ⟨w.heap.size,6,none⟩=some (iv x.s)∧w'.cell? ⟨w.heap.size,2,none⟩=some (iv x.r)) (first|go_keep) (first|(go_at_call 148;refine st (HLL.o _) ?_))
 go_wp2_with fail
 first|go_end0|refine bodyPost_ret (results_none rfl _ _ _) rfl ?_
 exact ⟨rfl,g2,by rw [E.o];exact HM_D.o,HS_D.o⟩
theorem Jq (w:World) (lo mid hi p g2:Nat) (c:Pl.Mc) (x:Pl.In) (t:Int) (h:MAt w lo mid hi p g2 c) (G:Pl.GM c) (B:Pl.InB x) (ho:x.op=14) (hm:x.m=0∨x.m=2∨x.m=3∨x.m=4∨x.m=5∨x.m=6) (hfc:c.fine=true) (hs:(x.s==1)=false) :
  Calls prog 111 #[.pointer (some ⟨p,0,none⟩),.agg (inX x),iv t] w fun e w'=>e=.returned (.tuple #[])∧∃g3,MAt w' lo mid hi p g3 (c.jump x t)∧Since w lo hi g2 w' g3:=by
 have HG:=hide G
 have HI:=hide B
 have HOP:=hide ho
 clear ho
 have hl:=h.lo
 obtain ⟨X,hX,KA,HX,hbw,HHB,HGB,HPH,HPB,HMH,HS,HM⟩:=h.dS x
 obtain ⟨b0,b1,b2,b3,b4,b5,b6⟩:=aG HX.o
 rw [HOP.o] at b0
 clear h
 obtain ⟨gd,cd,ga,ca,g1,c1,c2,HB,HO⟩:=HM.o.op
 clear G B
 have HG1:=hide (HG.o.place (z:=2) (m:=x.m) (e:=x.e) HI.o.k0 HI.o.k1)
 have HFP:=Pl.xR c 2 x.m x.k x.e
 have hf:(c.place 2 x.m x.k x.e).fine=true:=by
  rw [←hfc];unfold Pl.Mc.place;cases x.m==0<;>rfl
 have HRD:=fun w9 h9=>tH w9 lo mid hi p g2 c 2 x.m x.k x.e h9 HG.o HI.o.k0 HI.o.k1 HI.o.e0 HI.o.e1 hm
 have E:Hid (c.jump x t=(c.place 2 x.m x.k x.e).aK (c.iR 2 x.m x.k x.e)):=hide (by unfold Pl.Mc.jump;rw [HOP.o,hs];rfl)
 obtain ⟨d,hd⟩:∃d,c.place 2 x.m x.k x.e=d:=⟨_,rfl⟩
 obtain ⟨a,hA⟩:∃a,c.iR 2 x.m x.k x.e=a:=⟨_,rfl⟩
 rw [hd] at hf HG1 HFP
 first|rw [hd,hA] at E|rw [hd] at E
 simp only [hd,hA] at HRD
 clear hd hA hfc hm
 go_enter func111,ntmps111
 go_wp2_with (first|(go_at_call 104;refine (HRD _ HM.o).mono ?_;rintro e9 W_1 ⟨rfl,aW,hm9,hb9⟩;obtain ⟨bu,di,bK⟩:=hb9.nx HX HHB HGB HS;clear hb9;have aY:=hide hm9;obtain ⟨bV,bY,bW,bZ,eX,fA,eY,aZ,bG⟩:=hm9.op;have kF:=aZ.o.k3;have Gj:=aZ.o.frozen 3;clear b0 b1 b2 b3 b4 b5 b6;obtain ⟨b0,b1,b2,b3,b4,b5,b6⟩:=aG bu.o;rw [HOP.o] at b0)|(go_at_call 68;refine st (bT _ lo mid hi p aW _ aY.o) ?_;rw [hf]))
 first|go_end0|refine bodyPost_ret (results_none rfl _ _ _) rfl ?_
 exact ⟨rfl,aW,by rw [E.o];exact aY.o.cP _,bK.o.set p 3 _ HPH.o⟩
theorem BD (w:World) (lo mid hi p g2:Nat) (c:Pl.Mc) (x:Pl.In) (t:Int) (h:MAt w lo mid hi p g2 c) (G:Pl.GM c) (B:Pl.InB x) (ho:x.op=14) (hm:x.m=0∨x.m=2∨x.m=3∨x.m=4∨x.m=5∨x.m=6) (hfc:c.fine=true) (hs:x.s=1) (hf2:((c.place 2 x.m x.k x.e).push c.r.p).fine=true) :
  Calls prog 111 #[.pointer (some ⟨p,0,none⟩),.agg (inX x),iv t] w fun e w'=>e=.returned (.tuple #[])∧∃g3,MAt w' lo mid hi p g3 (c.jump x t)∧Since w lo hi g2 w' g3:=by
 have HG:=hide G
 have HI:=hide B
 have HOP:=hide ho
 have HSU:=hide hs
 clear hs
 clear ho
 have hl:=h.lo
 obtain ⟨X,hX,KA,HX,hbw,HHB,HGB,HPH,HPB,HMH,HS,HM⟩:=h.dS x
 obtain ⟨b0,b1,b2,b3,b4,b5,b6⟩:=aG HX.o
 rw [HOP.o] at b0
 rw [HSU.o] at b6
 clear h
 obtain ⟨gd,cd,ga,ca,g1,c1,c2,HB,HO⟩:=HM.o.op
 clear G B
 have HG1:=hide (HG.o.place (z:=2) (m:=x.m) (e:=x.e) HI.o.k0 HI.o.k1)
 have HFP:=Pl.xR c 2 x.m x.k x.e
 have hf:(c.place 2 x.m x.k x.e).fine=true:=by
  rw [←hfc];unfold Pl.Mc.place;cases x.m==0<;>rfl
 have HRD:=fun w9 h9=>tH w9 lo mid hi p g2 c 2 x.m x.k x.e h9 HG.o HI.o.k0 HI.o.k1 HI.o.e0 HI.o.e1 hm
 have E:Hid (c.jump x t=(((c.place 2 x.m x.k x.e).push c.r.p).aK (c.iR 2 x.m x.k x.e))):=hide (by unfold Pl.Mc.jump;rw [HOP.o,HSU.o,hf2];rfl)
 obtain ⟨d,hd⟩:∃d,c.place 2 x.m x.k x.e=d:=⟨_,rfl⟩
 obtain ⟨a,hA⟩:∃a,c.iR 2 x.m x.k x.e=a:=⟨_,rfl⟩
 rw [hd] at hf HG1 HFP
 first|rw [hd,hA] at E|rw [hd] at E
 simp only [hd,hA] at HRD
 rw [hd,←HFP] at hf2
 rw [←HFP] at E
 have HP0:=hide HG1.o.p0
 have HP1:=hide HG1.o.p1
 clear HFP
 clear hd hA hfc hm
 go_enter func111,ntmps111
 go_wp2_with (first|(go_at_call 81;refine (QL _ lo mid hi p aW d d.r.p aY.o HG1.o HP0.o HP1.o).mono ?_;rintro e9 W_2 ⟨rfl,lw,hm9,hb9⟩;obtain ⟨dU,qp,iq⟩:=hb9.nx bu HHB di bK;clear hb9;have iy:=hide hm9;obtain ⟨wO,wR,wP,wS,yx,yR,yQ,aP,iE⟩:=hm9.op;have uV:=aP.o.k3;have vW:=aP.o.frozen 3;clear b0 b1 b2 b3 b4 b5 b6;obtain ⟨b0,b1,b2,b3,b4,b5,b6⟩:=aG dU.o;rw [HOP.o] at b0;rw [HSU.o] at b6)|(go_at_call 68;have z9:=iy;refine st (bT _ lo mid hi p lw _ iy.o) ?_;rw [hf2])|(go_at_call 104;refine (HRD _ HM.o).mono ?_;rintro e9 W_1 ⟨rfl,aW,hm9,hb9⟩;obtain ⟨bu,di,bK⟩:=hb9.nx HX HHB HGB HS;clear hb9;have aY:=hide hm9;obtain ⟨bV,bY,bW,bZ,eX,fA,eY,aZ,bG⟩:=hm9.op;have kF:=aZ.o.k3;have Gj:=aZ.o.frozen 3;clear b0 b1 b2 b3 b4 b5 b6;obtain ⟨b0,b1,b2,b3,b4,b5,b6⟩:=aG bu.o;rw [HOP.o] at b0;rw [HSU.o] at b6))
 first|go_end0|refine bodyPost_ret (results_none rfl _ _ _) rfl ?_
 exact ⟨rfl,lw,by rw [E.o];exact iy.o.cP _,iq.o.set p 3 _ HPH.o⟩
theorem BG (w:World) (lo mid hi p g2:Nat) (c:Pl.Mc) (x:Pl.In) (t:Int) (h:MAt w lo mid hi p g2 c) (G:Pl.GM c) (B:Pl.InB x) (ho:x.op=14) (hm:x.m=0∨x.m=2∨x.m=3∨x.m=4∨x.m=5∨x.m=6) (hfc:c.fine=true) (hs:x.s=1) (hf2:((c.place 2 x.m x.k x.e).push c.r.p).fine=false) :
  Calls prog 111 #[.pointer (some ⟨p,0,none⟩),.agg (inX x),iv t] w fun e w'=>e=.returned (.tuple #[])∧∃g3,MAt w' lo mid hi p g3 (c.jump x t)∧Since w lo hi g2 w' g3:=by
 have HG:=hide G
 have HI:=hide B
 have HOP:=hide ho
 have HSU:=hide hs
 clear hs
 clear ho
 have hl:=h.lo
 obtain ⟨X,hX,KA,HX,hbw,HHB,HGB,HPH,HPB,HMH,HS,HM⟩:=h.dS x
 obtain ⟨b0,b1,b2,b3,b4,b5,b6⟩:=aG HX.o
 rw [HOP.o] at b0
 rw [HSU.o] at b6
 clear h
 obtain ⟨gd,cd,ga,ca,g1,c1,c2,HB,HO⟩:=HM.o.op
 clear G B
 have HG1:=hide (HG.o.place (z:=2) (m:=x.m) (e:=x.e) HI.o.k0 HI.o.k1)
 have HFP:=Pl.xR c 2 x.m x.k x.e
 have hf:(c.place 2 x.m x.k x.e).fine=true:=by
  rw [←hfc];unfold Pl.Mc.place;cases x.m==0<;>rfl
 have HRD:=fun w9 h9=>tH w9 lo mid hi p g2 c 2 x.m x.k x.e h9 HG.o HI.o.k0 HI.o.k1 HI.o.e0 HI.o.e1 hm
 have E:Hid (c.jump x t=((c.place 2 x.m x.k x.e).push c.r.p)):=hide (by unfold Pl.Mc.jump;rw [HOP.o,HSU.o,hf2];rfl)
 obtain ⟨d,hd⟩:∃d,c.place 2 x.m x.k x.e=d:=⟨_,rfl⟩
 obtain ⟨a,hA⟩:∃a,c.iR 2 x.m x.k x.e=a:=⟨_,rfl⟩
 rw [hd] at hf HG1 HFP
 first|rw [hd,hA] at E|rw [hd] at E
 simp only [hd,hA] at HRD
 rw [hd,←HFP] at hf2
 rw [←HFP] at E
 have HP0:=hide HG1.o.p0
 have HP1:=hide HG1.o.p1
 clear HFP
 clear hd hA hfc hm
 go_enter func111,ntmps111
 go_wp2_with (first|(go_at_call 81;refine (QL _ lo mid hi p aW d d.r.p aY.o HG1.o HP0.o HP1.o).mono ?_;rintro e9 W_2 ⟨rfl,lw,hm9,hb9⟩;obtain ⟨dU,qp,iq⟩:=hb9.nx bu HHB di bK;clear hb9;have iy:=hide hm9;obtain ⟨wO,wR,wP,wS,yx,yR,yQ,aP,iE⟩:=hm9.op;have uV:=aP.o.k3;have vW:=aP.o.frozen 3;clear b0 b1 b2 b3 b4 b5 b6;obtain ⟨b0,b1,b2,b3,b4,b5,b6⟩:=aG dU.o;rw [HOP.o] at b0;rw [HSU.o] at b6)|(go_at_call 68;have z9:=iy;refine st (bT _ lo mid hi p lw _ iy.o) ?_;rw [hf2])|(go_at_call 104;refine (HRD _ HM.o).mono ?_;rintro e9 W_1 ⟨rfl,aW,hm9,hb9⟩;obtain ⟨bu,di,bK⟩:=hb9.nx HX HHB HGB HS;clear hb9;have aY:=hide hm9;obtain ⟨bV,bY,bW,bZ,eX,fA,eY,aZ,bG⟩:=hm9.op;have kF:=aZ.o.k3;have Gj:=aZ.o.frozen 3;clear b0 b1 b2 b3 b4 b5 b6;obtain ⟨b0,b1,b2,b3,b4,b5,b6⟩:=aG bu.o;rw [HOP.o] at b0;rw [HSU.o] at b6))
 first|go_end0|refine bodyPost_ret (results_none rfl _ _ _) rfl ?_
 exact ⟨rfl,lw,by rw [E.o];exact iy.o,iq.o⟩
theorem QM (w:World) (lo mid hi p g2:Nat) (c:Pl.Mc) (x:Pl.In) (t:Int) (h:MAt w lo mid hi p g2 c) (G:Pl.GM c) (B:Pl.InB x) (t0:0≤t) (t1:t≤65535) (hfc:c.fine=true) (ho:(x.op=13∧x.r≤1)∨(x.op=14∧(x.m=0∨x.m=2∨x.m=3∨x.m=4∨x.m=5∨x.m=6))) :
  Calls prog 111 #[.pointer (some ⟨p,0,none⟩),.agg (inX x),iv t] w fun e w'=>e=.returned (.tuple #[])∧∃g3,MAt w' lo mid hi p g3 (c.jump x t)∧Since w lo hi g2 w' g3:=by
 rcases ho with ⟨ho,r1⟩|⟨ho,hm⟩
 ·cases hb:Pl.tst (x.s+8*x.r) c.r.f
  ·exact FB w lo mid hi p g2 c x t h G B ho r1 t0 t1 hb
  ·exact Fz w lo mid hi p g2 c x t h G B ho r1 t0 t1 hb
 ·by_cases hs:x.s=1
  ·cases hf2:((c.place 2 x.m x.k x.e).push c.r.p).fine
   ·exact BG w lo mid hi p g2 c x t h G B ho hm hfc hs hf2
   ·exact BD w lo mid hi p g2 c x t h G B ho hm hfc hs hf2
  ·exact Jq w lo mid hi p g2 c x t h G B ho hm hfc (by simpa using hs)
theorem Ov (w:World) (lo mid hi p g2:Nat) (c:Pl.Mc) (x:Pl.In) (t:Int) (h:MAt w lo mid hi p g2 c) (G:Pl.GM c) (B:Pl.InB x) (ho:x.op=11) (hm:x.m=0∨x.m=2∨x.m=3∨x.m=4∨x.m=5∨x.m=6) (hfc:c.fine=true) (hs:x.s=0∨x.s=1∨x.s=2∨x.s=3) :
  Calls prog 70 #[.pointer (some ⟨p,0,none⟩),.agg (inX x),iv t] w fun e w'=>e=.returned (.tuple #[])∧∃g3,MAt w' lo mid hi p g3 (c.doI x t)∧Since w lo hi g2 w' g3:=by
 have HOP:=hide ho
 have HC:=fun w9 h9=>Yp w9 lo mid hi p g2 c x h9 G B hm hfc hs
 have E:Hid (c.doI x t=c.one x):=hide (by unfold Pl.Mc.doI;rw [HOP.o];rfl)
 unfold inX at HC
 rw [ho] at HC
 clear ho
 have hl:=h.lo
 obtain ⟨X,hX,KA,HX,hbw,HHB,HGB,HPH,HPB,HMH,HS,HM⟩:=h.dS x
 obtain ⟨b0,b1,b2,b3,b4,b5,b6⟩:=aG HX.o
 rw [HOP.o] at b0
 clear h
 obtain ⟨gd,cd,ga,ca,g1,c1,c2,HB,HO⟩:=HM.o.op
 clear G B
 go_enter func70,ntmps70
 go_wp2_with (go_at_call 108;refine (HC _ HM.o).mono ?_;rintro e9 W_1 ⟨rfl,aW,hm9,hb9⟩;obtain ⟨bu,di,bK⟩:=hb9.nx HX HHB HGB HS;clear hb9;have aY:=hide hm9;obtain ⟨bV,bY,bW,bZ,eX,fA,eY,aZ,bG⟩:=hm9.op)
 first|go_end0|refine bodyPost_ret (results_none rfl _ _ _) rfl ?_
 exact ⟨rfl,aW,by rw [E.o];exact aY.o,bK.o⟩
theorem Cb (w:World) (lo mid hi p g2:Nat) (c:Pl.Mc) (x:Pl.In) (t:Int) (h:MAt w lo mid hi p g2 c) (G:Pl.GM c) (B:Pl.InB x) (ho:x.op=13) (t0:0≤t) (t1:t≤65535) (hfc:c.fine=true) (r2:x.r≤1) :
  Calls prog 70 #[.pointer (some ⟨p,0,none⟩),.agg (inX x),iv t] w fun e w'=>e=.returned (.tuple #[])∧∃g3,MAt w' lo mid hi p g3 (c.doI x t)∧Since w lo hi g2 w' g3:=by
 have HOP:=hide ho
 have HC:=fun w9 h9=>QM w9 lo mid hi p g2 c x t h9 G B t0 t1 hfc (.inl ⟨ho,r2⟩)
 have E:Hid (c.doI x t=c.jump x t):=hide (by unfold Pl.Mc.doI;rw [HOP.o];rfl)
 unfold inX at HC
 rw [ho] at HC
 clear ho
 have hl:=h.lo
 obtain ⟨X,hX,KA,HX,hbw,HHB,HGB,HPH,HPB,HMH,HS,HM⟩:=h.dS x
 obtain ⟨b0,b1,b2,b3,b4,b5,b6⟩:=aG HX.o
 rw [HOP.o] at b0
 clear h
 obtain ⟨gd,cd,ga,ca,g1,c1,c2,HB,HO⟩:=HM.o.op
 clear G B
 go_enter func70,ntmps70
 go_wp2_with (go_at_call 111;refine (HC _ HM.o).mono ?_;rintro e9 W_1 ⟨rfl,aW,hm9,hb9⟩;obtain ⟨bu,di,bK⟩:=hb9.nx HX HHB HGB HS;clear hb9;have aY:=hide hm9;obtain ⟨bV,bY,bW,bZ,eX,fA,eY,aZ,bG⟩:=hm9.op)
 first|go_end0|refine bodyPost_ret (results_none rfl _ _ _) rfl ?_
 exact ⟨rfl,aW,by rw [E.o];exact aY.o,bK.o⟩
theorem Jz (w:World) (lo mid hi p g2:Nat) (c:Pl.Mc) (x:Pl.In) (t:Int) (h:MAt w lo mid hi p g2 c) (G:Pl.GM c) (B:Pl.InB x) (ho:x.op=14) (t0:0≤t) (t1:t≤65535) (hfc:c.fine=true) (hm:x.m=0∨x.m=2∨x.m=3∨x.m=4∨x.m=5∨x.m=6) :
  Calls prog 70 #[.pointer (some ⟨p,0,none⟩),.agg (inX x),iv t] w fun e w'=>e=.returned (.tuple #[])∧∃g3,MAt w' lo mid hi p g3 (c.doI x t)∧Since w lo hi g2 w' g3:=by
 have HOP:=hide ho
 have HC:=fun w9 h9=>QM w9 lo mid hi p g2 c x t h9 G B t0 t1 hfc (.inr ⟨ho,hm⟩)
 have E:Hid (c.doI x t=c.jump x t):=hide (by unfold Pl.Mc.doI;rw [HOP.o];rfl)
 unfold inX at HC
 rw [ho] at HC
 clear ho
 have hl:=h.lo
 obtain ⟨X,hX,KA,HX,hbw,HHB,HGB,HPH,HPB,HMH,HS,HM⟩:=h.dS x
 obtain ⟨b0,b1,b2,b3,b4,b5,b6⟩:=aG HX.o
 rw [HOP.o] at b0
 clear h
 obtain ⟨gd,cd,ga,ca,g1,c1,c2,HB,HO⟩:=HM.o.op
 clear G B
 go_enter func70,ntmps70
 go_wp2_with (go_at_call 111;refine (HC _ HM.o).mono ?_;rintro e9 W_1 ⟨rfl,aW,hm9,hb9⟩;obtain ⟨bu,di,bK⟩:=hb9.nx HX HHB HGB HS;clear hb9;have aY:=hide hm9;obtain ⟨bV,bY,bW,bZ,eX,fA,eY,aZ,bG⟩:=hm9.op)
 first|go_end0|refine bodyPost_ret (results_none rfl _ _ _) rfl ?_
 exact ⟨rfl,aW,by rw [E.o];exact aY.o,bK.o⟩
theorem zI (w:World) (lo mid hi p g2:Nat) (c:Pl.Mc) (x:Pl.In) (t:Int) (h:MAt w lo mid hi p g2 c) (G:Pl.GM c) (B:Pl.InB x) (ho:x.op=15) (s6:x.s≤6) (e3:x.s=3→x.e≤1023) :
  Calls prog 70 #[.pointer (some ⟨p,0,none⟩),.agg (inX x),iv t] w fun e w'=>e=.returned (.tuple #[])∧∃g3,MAt w' lo mid hi p g3 (c.doI x t)∧Since w lo hi g2 w' g3:=by
 have HOP:=hide ho
 have HC:=fun w9 h9=>V4 w9 lo mid hi p g2 c x h9 G B s6 e3
 have E:Hid (c.doI x t=c.iH x):=hide (by unfold Pl.Mc.doI;rw [HOP.o];rfl)
 unfold inX at HC
 rw [ho] at HC
 clear ho
 have hl:=h.lo
 obtain ⟨X,hX,KA,HX,hbw,HHB,HGB,HPH,HPB,HMH,HS,HM⟩:=h.dS x
 obtain ⟨b0,b1,b2,b3,b4,b5,b6⟩:=aG HX.o
 rw [HOP.o] at b0
 clear h
 obtain ⟨gd,cd,ga,ca,g1,c1,c2,HB,HO⟩:=HM.o.op
 clear G B
 go_enter func70,ntmps70
 go_wp2_with (go_at_call 112;refine (HC _ HM.o).mono ?_;rintro e9 W_1 ⟨rfl,aW,hm9,hb9⟩;obtain ⟨bu,di,bK⟩:=hb9.nx HX HHB HGB HS;clear hb9;have aY:=hide hm9;obtain ⟨bV,bY,bW,bZ,eX,fA,eY,aZ,bG⟩:=hm9.op)
 first|go_end0|refine bodyPost_ret (results_none rfl _ _ _) rfl ?_
 exact ⟨rfl,aW,by rw [E.o];exact aY.o,bK.o⟩
theorem BV (w:World) (lo mid hi p g2:Nat) (c:Pl.Mc) (x:Pl.In) (t:Int) (h:MAt w lo mid hi p g2 c) (G:Pl.GM c) (B:Pl.InB x) (ho:x.op=16) :
  Calls prog 70 #[.pointer (some ⟨p,0,none⟩),.agg (inX x),iv t] w fun e w'=>e=.returned (.tuple #[])∧∃g3,MAt w' lo mid hi p g3 (c.doI x t)∧Since w lo hi g2 w' g3:=by
 have HOP:=hide ho
 have HC:=fun w9 h9=>zH w9 lo mid hi p g2 c x h9 G B (.inl ho)
 have E:Hid (c.doI x t=c.product x):=hide (by unfold Pl.Mc.doI;rw [HOP.o];rfl)
 unfold inX at HC
 rw [ho] at HC
 clear ho
 have hl:=h.lo
 obtain ⟨X,hX,KA,HX,hbw,HHB,HGB,HPH,HPB,HMH,HS,HM⟩:=h.dS x
 obtain ⟨b0,b1,b2,b3,b4,b5,b6⟩:=aG HX.o
 rw [HOP.o] at b0
 clear h
 obtain ⟨gd,cd,ga,ca,g1,c1,c2,HB,HO⟩:=HM.o.op
 clear G B
 go_enter func70,ntmps70
 go_wp2_with (go_at_call 113;refine (HC _ HM.o).mono ?_;rintro e9 W_1 ⟨rfl,aW,hm9,hb9⟩;obtain ⟨bu,di,bK⟩:=hb9.nx HX HHB HGB HS;clear hb9;have aY:=hide hm9;obtain ⟨bV,bY,bW,bZ,eX,fA,eY,aZ,bG⟩:=hm9.op)
 first|go_end0|refine bodyPost_ret (results_none rfl _ _ _) rfl ?_
 exact ⟨rfl,aW,by rw [E.o];exact aY.o,bK.o⟩
theorem BU (w:World) (lo mid hi p g2:Nat) (c:Pl.Mc) (x:Pl.In) (t:Int) (h:MAt w lo mid hi p g2 c) (G:Pl.GM c) (B:Pl.InB x) (ho:x.op=17) :
  Calls prog 70 #[.pointer (some ⟨p,0,none⟩),.agg (inX x),iv t] w fun e w'=>e=.returned (.tuple #[])∧∃g3,MAt w' lo mid hi p g3 (c.doI x t)∧Since w lo hi g2 w' g3:=by
 have HOP:=hide ho
 have HC:=fun w9 h9=>zH w9 lo mid hi p g2 c x h9 G B (.inr ho)
 have E:Hid (c.doI x t=c.product x):=hide (by unfold Pl.Mc.doI;rw [HOP.o];rfl)
 unfold inX at HC
 rw [ho] at HC
 clear ho
 have hl:=h.lo
 obtain ⟨X,hX,KA,HX,hbw,HHB,HGB,HPH,HPB,HMH,HS,HM⟩:=h.dS x
 obtain ⟨b0,b1,b2,b3,b4,b5,b6⟩:=aG HX.o
 rw [HOP.o] at b0
 clear h
 obtain ⟨gd,cd,ga,ca,g1,c1,c2,HB,HO⟩:=HM.o.op
 clear G B
 go_enter func70,ntmps70
 go_wp2_with (go_at_call 113;refine (HC _ HM.o).mono ?_;rintro e9 W_1 ⟨rfl,aW,hm9,hb9⟩;obtain ⟨bu,di,bK⟩:=hb9.nx HX HHB HGB HS;clear hb9;have aY:=hide hm9;obtain ⟨bV,bY,bW,bZ,eX,fA,eY,aZ,bG⟩:=hm9.op)
 first|go_end0|refine bodyPost_ret (results_none rfl _ _ _) rfl ?_
 exact ⟨rfl,aW,by rw [E.o];exact aY.o,bK.o⟩
theorem Oy (w:World) (lo mid hi p g2:Nat) (c:Pl.Mc) (x:Pl.In) (t:Int) (h:MAt w lo mid hi p g2 c) (G:Pl.GM c) (B:Pl.InB x) (ho:x.op=18) :
  Calls prog 70 #[.pointer (some ⟨p,0,none⟩),.agg (inX x),iv t] w fun e w'=>e=.returned (.tuple #[])∧∃g3,MAt w' lo mid hi p g3 (c.doI x t)∧Since w lo hi g2 w' g3:=by
 have HOP:=hide ho
 have HC:=fun w9 h9=>Yq w9 lo mid hi p g2 c x h9 G B
 have E:Hid (c.doI x t=c.jB x):=hide (by unfold Pl.Mc.doI;rw [HOP.o];rfl)
 unfold inX at HC
 rw [ho] at HC
 clear ho
 have hl:=h.lo
 obtain ⟨X,hX,KA,HX,hbw,HHB,HGB,HPH,HPB,HMH,HS,HM⟩:=h.dS x
 obtain ⟨b0,b1,b2,b3,b4,b5,b6⟩:=aG HX.o
 rw [HOP.o] at b0
 clear h
 obtain ⟨gd,cd,ga,ca,g1,c1,c2,HB,HO⟩:=HM.o.op
 clear G B
 go_enter func70,ntmps70
 go_wp2_with (go_at_call 114;refine (HC _ HM.o).mono ?_;rintro e9 W_1 ⟨rfl,aW,hm9,hb9⟩;obtain ⟨bu,di,bK⟩:=hb9.nx HX HHB HGB HS;clear hb9;have aY:=hide hm9;obtain ⟨bV,bY,bW,bZ,eX,fA,eY,aZ,bG⟩:=hm9.op)
 first|go_end0|refine bodyPost_ret (results_none rfl _ _ _) rfl ?_
 exact ⟨rfl,aW,by rw [E.o];exact aY.o,bK.o⟩
theorem Jy (w:World) (lo mid hi p g2:Nat) (c:Pl.Mc) (x:Pl.In) (t:Int) (h:MAt w lo mid hi p g2 c) (G:Pl.GM c) (B:Pl.InB x) (ho:x.op=1) (h1:x.m=1→x.z=2) :
  Calls prog 70 #[.pointer (some ⟨p,0,none⟩),.agg (inX x),iv t] w fun e w'=>e=.returned (.tuple #[])∧∃g3,MAt w' lo mid hi p g3 (c.doI x t)∧Since w lo hi g2 w' g3:=by
 have HOP:=hide ho
 have HC:=fun w9 h9=>Bv w9 lo mid hi p g2 c x h9 G B h1 (by rw [ho];decide)
 have E:Hid (c.doI x t=c.two x):=hide (by unfold Pl.Mc.doI;rw [HOP.o];rfl)
 unfold inX at HC
 rw [ho] at HC
 clear ho
 have hl:=h.lo
 obtain ⟨X,hX,KA,HX,hbw,HHB,HGB,HPH,HPB,HMH,HS,HM⟩:=h.dS x
 obtain ⟨b0,b1,b2,b3,b4,b5,b6⟩:=aG HX.o
 rw [HOP.o] at b0
 clear h
 obtain ⟨gd,cd,ga,ca,g1,c1,c2,HB,HO⟩:=HM.o.op
 clear G B
 go_enter func70,ntmps70
 go_wp2_with (go_at_call 116;refine (HC _ HM.o).mono ?_;rintro e9 W_1 ⟨rfl,aW,hm9,hb9⟩;obtain ⟨bu,di,bK⟩:=hb9.nx HX HHB HGB HS;clear hb9;have aY:=hide hm9;obtain ⟨bV,bY,bW,bZ,eX,fA,eY,aZ,bG⟩:=hm9.op)
 first|go_end0|refine bodyPost_ret (results_none rfl _ _ _) rfl ?_
 exact ⟨rfl,aW,by rw [E.o];exact aY.o,bK.o⟩
theorem Jw (w:World) (lo mid hi p g2:Nat) (c:Pl.Mc) (x:Pl.In) (t:Int) (h:MAt w lo mid hi p g2 c) (G:Pl.GM c) (B:Pl.InB x) (ho:x.op=3) (h1:x.m=1→x.z=2) :
  Calls prog 70 #[.pointer (some ⟨p,0,none⟩),.agg (inX x),iv t] w fun e w'=>e=.returned (.tuple #[])∧∃g3,MAt w' lo mid hi p g3 (c.doI x t)∧Since w lo hi g2 w' g3:=by
 have HOP:=hide ho
 have HC:=fun w9 h9=>Bv w9 lo mid hi p g2 c x h9 G B h1 (by rw [ho];decide)
 have E:Hid (c.doI x t=c.two x):=hide (by unfold Pl.Mc.doI;rw [HOP.o];rfl)
 unfold inX at HC
 rw [ho] at HC
 clear ho
 have hl:=h.lo
 obtain ⟨X,hX,KA,HX,hbw,HHB,HGB,HPH,HPB,HMH,HS,HM⟩:=h.dS x
 obtain ⟨b0,b1,b2,b3,b4,b5,b6⟩:=aG HX.o
 rw [HOP.o] at b0
 clear h
 obtain ⟨gd,cd,ga,ca,g1,c1,c2,HB,HO⟩:=HM.o.op
 clear G B
 go_enter func70,ntmps70
 go_wp2_with (go_at_call 116;refine (HC _ HM.o).mono ?_;rintro e9 W_1 ⟨rfl,aW,hm9,hb9⟩;obtain ⟨bu,di,bK⟩:=hb9.nx HX HHB HGB HS;clear hb9;have aY:=hide hm9;obtain ⟨bV,bY,bW,bZ,eX,fA,eY,aZ,bG⟩:=hm9.op)
 first|go_end0|refine bodyPost_ret (results_none rfl _ _ _) rfl ?_
 exact ⟨rfl,aW,by rw [E.o];exact aY.o,bK.o⟩
theorem Jv (w:World) (lo mid hi p g2:Nat) (c:Pl.Mc) (x:Pl.In) (t:Int) (h:MAt w lo mid hi p g2 c) (G:Pl.GM c) (B:Pl.InB x) (ho:x.op=4) (h1:x.m=1→x.z=2) :
  Calls prog 70 #[.pointer (some ⟨p,0,none⟩),.agg (inX x),iv t] w fun e w'=>e=.returned (.tuple #[])∧∃g3,MAt w' lo mid hi p g3 (c.doI x t)∧Since w lo hi g2 w' g3:=by
 have HOP:=hide ho
 have HC:=fun w9 h9=>Bv w9 lo mid hi p g2 c x h9 G B h1 (by rw [ho];decide)
 have E:Hid (c.doI x t=c.two x):=hide (by unfold Pl.Mc.doI;rw [HOP.o];rfl)
 unfold inX at HC
 rw [ho] at HC
 clear ho
 have hl:=h.lo
 obtain ⟨X,hX,KA,HX,hbw,HHB,HGB,HPH,HPB,HMH,HS,HM⟩:=h.dS x
 obtain ⟨b0,b1,b2,b3,b4,b5,b6⟩:=aG HX.o
 rw [HOP.o] at b0
 clear h
 obtain ⟨gd,cd,ga,ca,g1,c1,c2,HB,HO⟩:=HM.o.op
 clear G B
 go_enter func70,ntmps70
 go_wp2_with (go_at_call 116;refine (HC _ HM.o).mono ?_;rintro e9 W_1 ⟨rfl,aW,hm9,hb9⟩;obtain ⟨bu,di,bK⟩:=hb9.nx HX HHB HGB HS;clear hb9;have aY:=hide hm9;obtain ⟨bV,bY,bW,bZ,eX,fA,eY,aZ,bG⟩:=hm9.op)
 first|go_end0|refine bodyPost_ret (results_none rfl _ _ _) rfl ?_
 exact ⟨rfl,aW,by rw [E.o];exact aY.o,bK.o⟩
theorem Ju (w:World) (lo mid hi p g2:Nat) (c:Pl.Mc) (x:Pl.In) (t:Int) (h:MAt w lo mid hi p g2 c) (G:Pl.GM c) (B:Pl.InB x) (ho:x.op=5) (h1:x.m=1→x.z=2) :
  Calls prog 70 #[.pointer (some ⟨p,0,none⟩),.agg (inX x),iv t] w fun e w'=>e=.returned (.tuple #[])∧∃g3,MAt w' lo mid hi p g3 (c.doI x t)∧Since w lo hi g2 w' g3:=by
 have HOP:=hide ho
 have HC:=fun w9 h9=>Bv w9 lo mid hi p g2 c x h9 G B h1 (by rw [ho];decide)
 have E:Hid (c.doI x t=c.two x):=hide (by unfold Pl.Mc.doI;rw [HOP.o];rfl)
 unfold inX at HC
 rw [ho] at HC
 clear ho
 have hl:=h.lo
 obtain ⟨X,hX,KA,HX,hbw,HHB,HGB,HPH,HPB,HMH,HS,HM⟩:=h.dS x
 obtain ⟨b0,b1,b2,b3,b4,b5,b6⟩:=aG HX.o
 rw [HOP.o] at b0
 clear h
 obtain ⟨gd,cd,ga,ca,g1,c1,c2,HB,HO⟩:=HM.o.op
 clear G B
 go_enter func70,ntmps70
 go_wp2_with (go_at_call 116;refine (HC _ HM.o).mono ?_;rintro e9 W_1 ⟨rfl,aW,hm9,hb9⟩;obtain ⟨bu,di,bK⟩:=hb9.nx HX HHB HGB HS;clear hb9;have aY:=hide hm9;obtain ⟨bV,bY,bW,bZ,eX,fA,eY,aZ,bG⟩:=hm9.op)
 first|go_end0|refine bodyPost_ret (results_none rfl _ _ _) rfl ?_
 exact ⟨rfl,aW,by rw [E.o];exact aY.o,bK.o⟩
theorem Jt (w:World) (lo mid hi p g2:Nat) (c:Pl.Mc) (x:Pl.In) (t:Int) (h:MAt w lo mid hi p g2 c) (G:Pl.GM c) (B:Pl.InB x) (ho:x.op=6) (h1:x.m=1→x.z=2) :
  Calls prog 70 #[.pointer (some ⟨p,0,none⟩),.agg (inX x),iv t] w fun e w'=>e=.returned (.tuple #[])∧∃g3,MAt w' lo mid hi p g3 (c.doI x t)∧Since w lo hi g2 w' g3:=by
 have HOP:=hide ho
 have HC:=fun w9 h9=>Bv w9 lo mid hi p g2 c x h9 G B h1 (by rw [ho];decide)
 have E:Hid (c.doI x t=c.two x):=hide (by unfold Pl.Mc.doI;rw [HOP.o];rfl)
 unfold inX at HC
 rw [ho] at HC
 clear ho
 have hl:=h.lo
 obtain ⟨X,hX,KA,HX,hbw,HHB,HGB,HPH,HPB,HMH,HS,HM⟩:=h.dS x
 obtain ⟨b0,b1,b2,b3,b4,b5,b6⟩:=aG HX.o
 rw [HOP.o] at b0
 clear h
 obtain ⟨gd,cd,ga,ca,g1,c1,c2,HB,HO⟩:=HM.o.op
 clear G B
 go_enter func70,ntmps70
 go_wp2_with (go_at_call 116;refine (HC _ HM.o).mono ?_;rintro e9 W_1 ⟨rfl,aW,hm9,hb9⟩;obtain ⟨bu,di,bK⟩:=hb9.nx HX HHB HGB HS;clear hb9;have aY:=hide hm9;obtain ⟨bV,bY,bW,bZ,eX,fA,eY,aZ,bG⟩:=hm9.op)
 first|go_end0|refine bodyPost_ret (results_none rfl _ _ _) rfl ?_
 exact ⟨rfl,aW,by rw [E.o];exact aY.o,bK.o⟩
theorem Js (w:World) (lo mid hi p g2:Nat) (c:Pl.Mc) (x:Pl.In) (t:Int) (h:MAt w lo mid hi p g2 c) (G:Pl.GM c) (B:Pl.InB x) (ho:x.op=7) (h1:x.m=1→x.z=2) :
  Calls prog 70 #[.pointer (some ⟨p,0,none⟩),.agg (inX x),iv t] w fun e w'=>e=.returned (.tuple #[])∧∃g3,MAt w' lo mid hi p g3 (c.doI x t)∧Since w lo hi g2 w' g3:=by
 have HOP:=hide ho
 have HC:=fun w9 h9=>Bv w9 lo mid hi p g2 c x h9 G B h1 (by rw [ho];decide)
 have E:Hid (c.doI x t=c.two x):=hide (by unfold Pl.Mc.doI;rw [HOP.o];rfl)
 unfold inX at HC
 rw [ho] at HC
 clear ho
 have hl:=h.lo
 obtain ⟨X,hX,KA,HX,hbw,HHB,HGB,HPH,HPB,HMH,HS,HM⟩:=h.dS x
 obtain ⟨b0,b1,b2,b3,b4,b5,b6⟩:=aG HX.o
 rw [HOP.o] at b0
 clear h
 obtain ⟨gd,cd,ga,ca,g1,c1,c2,HB,HO⟩:=HM.o.op
 clear G B
 go_enter func70,ntmps70
 go_wp2_with (go_at_call 116;refine (HC _ HM.o).mono ?_;rintro e9 W_1 ⟨rfl,aW,hm9,hb9⟩;obtain ⟨bu,di,bK⟩:=hb9.nx HX HHB HGB HS;clear hb9;have aY:=hide hm9;obtain ⟨bV,bY,bW,bZ,eX,fA,eY,aZ,bG⟩:=hm9.op)
 first|go_end0|refine bodyPost_ret (results_none rfl _ _ _) rfl ?_
 exact ⟨rfl,aW,by rw [E.o];exact aY.o,bK.o⟩
theorem Jr (w:World) (lo mid hi p g2:Nat) (c:Pl.Mc) (x:Pl.In) (t:Int) (h:MAt w lo mid hi p g2 c) (G:Pl.GM c) (B:Pl.InB x) (ho:x.op=8) (h1:x.m=1→x.z=2) :
  Calls prog 70 #[.pointer (some ⟨p,0,none⟩),.agg (inX x),iv t] w fun e w'=>e=.returned (.tuple #[])∧∃g3,MAt w' lo mid hi p g3 (c.doI x t)∧Since w lo hi g2 w' g3:=by
 have HOP:=hide ho
 have HC:=fun w9 h9=>Bv w9 lo mid hi p g2 c x h9 G B h1 (by rw [ho];decide)
 have E:Hid (c.doI x t=c.two x):=hide (by unfold Pl.Mc.doI;rw [HOP.o];rfl)
 unfold inX at HC
 rw [ho] at HC
 clear ho
 have hl:=h.lo
 obtain ⟨X,hX,KA,HX,hbw,HHB,HGB,HPH,HPB,HMH,HS,HM⟩:=h.dS x
 obtain ⟨b0,b1,b2,b3,b4,b5,b6⟩:=aG HX.o
 rw [HOP.o] at b0
 clear h
 obtain ⟨gd,cd,ga,ca,g1,c1,c2,HB,HO⟩:=HM.o.op
 clear G B
 go_enter func70,ntmps70
 go_wp2_with (go_at_call 116;refine (HC _ HM.o).mono ?_;rintro e9 W_1 ⟨rfl,aW,hm9,hb9⟩;obtain ⟨bu,di,bK⟩:=hb9.nx HX HHB HGB HS;clear hb9;have aY:=hide hm9;obtain ⟨bV,bY,bW,bZ,eX,fA,eY,aZ,bG⟩:=hm9.op)
 first|go_end0|refine bodyPost_ret (results_none rfl _ _ _) rfl ?_
 exact ⟨rfl,aW,by rw [E.o];exact aY.o,bK.o⟩
end Go.Proofs.YtkkmnnhaailkcaaGreatDoor
