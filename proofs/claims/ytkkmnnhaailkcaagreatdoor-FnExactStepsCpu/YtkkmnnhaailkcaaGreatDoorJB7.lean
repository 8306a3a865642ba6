/- Part 7 of what the last text leans on. -/
import Derived.Test.YtkkmnnhaailkcaaGreatDoorJB6
import Derived.Deep.RegionHeld3
set_option maxRecDepth 100000
set_option maxHeartbeats 16000000
namespace Go.Proofs.YtkkmnnhaailkcaaGreatDoor
open Go.RowKit Go.Proofs.Tryz
set_option linter.unusedVariables false
theorem cellsS {W:World} {p gd cd ga ca g1 c1 g2 c2 b:Nat} {c:Pl.Mc} {x:Pl.In} {ty:TypeId} (hB:MB W p gd cd ga ca g1 c1 g2 c2 c) (hX:Blk W b (mi x) ty):W.cell? ⟨p,0,none⟩=some (.slice (some ⟨gd,0,none⟩) 4 cd)∧W.cell? ⟨p,1,none⟩=some (.slice (some ⟨ga,0,none⟩) 4 ca)∧W.cell? ⟨p,2,none⟩=some (iv c.r.o)∧W.cell? ⟨p,3,none⟩=some (iv c.r.p)∧W.cell? ⟨p,4,none⟩=some (iv c.r.f)∧W.cell? ⟨p,5,none⟩=some (iv c.r.m)∧W.cell? ⟨p,6,none⟩=some (.bool c.r.s)∧W.cell? ⟨p,7,none⟩=some (.bool c.r.t)∧W.cell? ⟨b,1,none⟩=some (iv x.z)∧W.cell? ⟨b,2,none⟩=some (iv x.r):=by
 obtain ⟨t0,t1,t2,t3,t4,t5,t6,t7,_⟩:=hB.cells
 obtain ⟨b0,b1,b2,b3,b4,b5,b6⟩:=aG hX
 exact ⟨t0,t1,t2,t3,t4,t5,t6,t7,b1,b2⟩
theorem Ot (w:World) (lo mid hi p g2:Nat) (c:Pl.Mc) (x:Pl.In) (h:MAt w lo mid hi p g2 c) (G:Pl.GM c) (B:Pl.InB x) (h1:x.m=1→x.z=2) (hf:(c.read x.z x.m x.k x.e).fine=false) :
  Calls prog 116 #[.pointer (some ⟨p,0,none⟩),.agg (inX x)] w fun e w'=>e=.returned (.tuple #[])∧∃g3,MAt w' lo mid hi p g3 (c.two x)∧Since w lo hi g2 w' g3:=by
 have HG:=hide G
 have HI:=hide B
 have HV:=hide (Pl.dC G B.z B.k0 B.k1 B.e0 B.e1 h1 B.n7)
 have HG1:=hide (G.read (m:=x.m) B.z B.k0 B.k1 B.e0 B.e1)
 have hl:=h.lo
 obtain ⟨X,hX,KA,HX,hbw,HHB,HGB,HPH,HPB,HMH,HS,HM⟩:=h.dS x
 obtain ⟨b0,b1,b2,b3,b4,b5,b6⟩:=aG HX.o
 clear h
 obtain ⟨gd,cd,ga,ca,g1,c1,c2,HB,HO⟩:=HM.o.op
 clear G B h1
 have E:Hid (c.two x=c.read x.z x.m x.k x.e):=hide (by unfold Pl.Mc.two;rw [hf];rfl)
 go_enter func116,ntmps116
 go_wp2_with (first|(go_at_call 103;refine (jM _ lo mid hi p g2 c x.z x.m x.k x.e HM.o HG.o HI.o.z HI.o.k0 HI.o.k1 HI.o.e0 HI.o.e1 HI.o.m0 HI.o.m1).mono ?_;rintro e9 W_1 ⟨rfl,aW,hm9,hb9⟩;obtain ⟨bu,di,bK⟩:=hb9.nx HX HHB HGB HS;clear hb9;have aY:=hide hm9;obtain ⟨bV,bY,bW,bZ,eX,fA,eY,aZ,bG⟩:=hm9.op;obtain ⟨lV,lD,oI,kF,oH,oG,oD,oC⟩:=aZ.o.c8;clear b0 b1 b2 b3 b4 b5 b6;obtain ⟨b0,b1,b2,b3,b4,b5,b6⟩:=aG bu.o)|(go_at_call 68;refine st (bT _ lo mid hi p aW _ aY.o) ?_;rw [hf]))
 first|go_end0|refine bodyPost_ret (results_none rfl _ _ _) rfl ?_
 exact ⟨rfl,aW,by rw [E.o];exact aY.o,bK.o⟩
theorem Jh (w:World) (lo mid hi p g2:Nat) (c:Pl.Mc) (x:Pl.In) (h:MAt w lo mid hi p g2 c) (G:Pl.GM c) (B:Pl.InB x) (h1:x.m=1→x.z=2) (hf:(c.read x.z x.m x.k x.e).fine=true) (ho:x.op=8) :
  Calls prog 116 #[.pointer (some ⟨p,0,none⟩),.agg (inX x)] w fun e w'=>e=.returned (.tuple #[])∧∃g3,MAt w' lo mid hi p g3 (c.two x)∧Since w lo hi g2 w' g3:=by
 have HG:=hide G
 have HI:=hide B
 have HV:=hide (Pl.dC G B.z B.k0 B.k1 B.e0 B.e1 h1 B.n7)
 have HG1:=hide (G.read (m:=x.m) B.z B.k0 B.k1 B.e0 B.e1)
 have HOP:=hide ho
 clear ho
 have hl:=h.lo
 obtain ⟨X,hX,KA,HX,hbw,HHB,HGB,HPH,HPB,HMH,HS,HM⟩:=h.dS x
 obtain ⟨b0,b1,b2,b3,b4,b5,b6⟩:=aG HX.o
 rw [HOP.o] at b0
 clear h
 obtain ⟨gd,cd,ga,ca,g1,c1,c2,HB,HO⟩:=HM.o.op
 clear G B h1
 have HQ:Hid (el (c.read x.z x.m x.k x.e).r.xs x.r.toNat%Pl.top x.z=(c.read x.z x.m x.k x.e).low x.z x.r):=hide rfl
 have HQ0:=Pl.fP HG1.o HI.o.z HI.o.r0 HI.o.r1
 obtain ⟨d,hd⟩:∃d,c.read x.z x.m x.k x.e=d:=⟨_,rfl⟩
 obtain ⟨v,hv⟩:∃v,c.bf x.z x.m x.k x.e=v:=⟨_,rfl⟩
 have E:Hid (c.two x=d.two' x (d.low x.z x.r) v):=hide (by unfold Pl.Mc.two;rw [hf,hd,hv];rfl)
 have HRD:=fun w9 h9=>jM w9 lo mid hi p g2 c x.z x.m x.k x.e h9 HG.o HI.o.z HI.o.k0 HI.o.k1 HI.o.e0 HI.o.e1 HI.o.m0 HI.o.m1
 rw [hd] at hf HG1 HQ HQ0
 rw [hv] at HV
 simp only [hd,hv] at HRD
 clear hd hv
 obtain ⟨q,hq⟩:∃q,d.low x.z x.r=q:=⟨_,rfl⟩
 rw [hq] at E HQ HQ0
 clear hq
 have HF:=hide (Pl.bI HG1.o)
 have HVQ:=hide HQ0
 have E2:Hid (d.two' x q v=d.aF (Pl.oK x.z d.r.f q v)):=hide (by unfold Pl.Mc.two';rw [HOP.o];rfl)
 go_enter func116,ntmps116
 go_wp2_with (first|(go_at_call 103;refine (HRD _ HM.o).mono ?_;rintro e9 W_1 ⟨rfl,aW,hm9,hb9⟩;obtain ⟨bu,di,bK⟩:=hb9.nx HX HHB HGB HS;clear hb9;have aY:=hide hm9;obtain ⟨bV,bY,bW,bZ,eX,fA,eY,aZ,bG⟩:=hm9.op;obtain ⟨lV,lD,oI,kF,oH,oG,oD,oC⟩:=aZ.o.c8;clear b0 b1 b2 b3 b4 b5 b6;obtain ⟨b0,b1,b2,b3,b4,b5,b6⟩:=aG bu.o;rw [HOP.o] at b0)|(go_at_call 68;refine st (bT _ lo mid hi p aW _ aY.o) ?_;rw [hf]))
 have HD:=hide (bG.o.any (ae (Kept.refl 0 0 W_1))).d
 have S1D:=cellsS (aZ.o.any (ae (Kept.refl 0 0 W_1))) (bu.o.af (ae (Kept.refl 0 0 W_1)))
 go_region_held3 (fun w'=>w'.cell? ⟨p,0,none⟩=some (.slice (some ⟨bV,0,none⟩) 4 bY)∧w'.cell? ⟨p,1,none⟩=some (.slice (some ⟨bW,0,none⟩) 4 bZ)∧w'.cell? ⟨p,2,none⟩=some (iv d.r.o)∧w'.cell? ⟨p,3,none⟩=some (iv d.r.p)∧w'.cell? ⟨p,4,none⟩=some (iv d.r.f)∧w'.cell? ⟨p,5,none⟩=some (iv d.r.m)∧w'.cell? ⟨p,6,none⟩=some (.bool d.r.s)∧w'.cell? ⟨p,7,none⟩=some (.bool d.r.t)∧w'.cell? ⟨w.heap.size,1,none⟩=some (iv x.z)∧w'.cell? ⟨w.heap.size,2,none⟩=some (iv x.r)) (first|with_reducible exact S1D|with_reducible exact cellsS aP.o dU.o|go_keep) (first|(go_at_call 105;refine (wM _ bV bY bW bZ d.r x.z x.r HD.o HG1.o.g HI.o.z HI.o.r0 HI.o.r1).mono ?_;rw [HQ.o];rintro e9 W_2 ⟨rfl,hk9⟩;have K2:=hide ((ae (Kept.refl 0 0 W_1)).trans hk9);clear hk9;have iy:=hide (aY.o.any K2.o);have aP:=hide (aZ.o.any K2.o);have iE:=hide (bG.o.any K2.o);have dU:=hide (bu.o.af K2.o);have iq:=hide (bK.o.any K2.o);obtain ⟨xK,xJ,xI,uV,sN,xH,xG,xE,sK,sJ,mP,mO,mM,mJ,mG,mF⟩:=aP.o.cells;clear sK sJ mP mO mM mJ mG mF;have yH:=aP.o.frozen 0;have yG:=aP.o.frozen 1;have yF:=aP.o.frozen 2;have vW:=aP.o.frozen 3;have tY:=aP.o.frozen 4;have yE:=aP.o.frozen 5;have yD:=aP.o.frozen 6;have yC:=aP.o.frozen 7;clear b0 b1 b2 b3 b4 b5 b6;obtain ⟨b0,b1,b2,b3,b4,b5,b6⟩:=aG dU.o;rw [HOP.o] at b0;clear lV lD oI kF oH oG oD oC))
 go_wp2_with (go_at_call 158;refine st (TA _ HVQ.o HV.o HF.o) ?_)
 first|go_end0|refine bodyPost_ret (results_none rfl _ _ _) rfl ?_
 exact ⟨rfl,aW,by rw [E.o,E2.o];exact iy.o.cF _,iq.o.set p 4 _ HPH.o⟩
theorem Jj (w:World) (lo mid hi p g2:Nat) (c:Pl.Mc) (x:Pl.In) (h:MAt w lo mid hi p g2 c) (G:Pl.GM c) (B:Pl.InB x) (h1:x.m=1→x.z=2) (hf:(c.read x.z x.m x.k x.e).fine=true) (ho:x.op=3) :
  Calls prog 116 #[.pointer (some ⟨p,0,none⟩),.agg (inX x)] w fun e w'=>e=.returned (.tuple #[])∧∃g3,MAt w' lo mid hi p g3 (c.two x)∧Since w lo hi g2 w' g3:=by
 have HG:=hide G
 have HI:=hide B
 have HV:=hide (Pl.dC G B.z B.k0 B.k1 B.e0 B.e1 h1 B.n7)
 have HG1:=hide (G.read (m:=x.m) B.z B.k0 B.k1 B.e0 B.e1)
 have HOP:=hide ho
 clear ho
 have hl:=h.lo
 obtain ⟨X,hX,KA,HX,hbw,HHB,HGB,HPH,HPB,HMH,HS,HM⟩:=h.dS x
 obtain ⟨b0,b1,b2,b3,b4,b5,b6⟩:=aG HX.o
 rw [HOP.o] at b0
 clear h
 obtain ⟨gd,cd,ga,ca,g1,c1,c2,HB,HO⟩:=HM.o.op
 clear G B h1
 have HQ:Hid (el (c.read x.z x.m x.k x.e).r.xs x.r.toNat%Pl.top x.z=(c.read x.z x.m x.k x.e).low x.z x.r):=hide rfl
 have HQ0:=Pl.fP HG1.o HI.o.z HI.o.r0 HI.o.r1
 obtain ⟨d,hd⟩:∃d,c.read x.z x.m x.k x.e=d:=⟨_,rfl⟩
 obtain ⟨v,hv⟩:∃v,c.bf x.z x.m x.k x.e=v:=⟨_,rfl⟩
 have E:Hid (c.two x=d.two' x (d.low x.z x.r) v):=hide (by unfold Pl.Mc.two;rw [hf,hd,hv];rfl)
 have HRD:=fun w9 h9=>jM w9 lo mid hi p g2 c x.z x.m x.k x.e h9 HG.o HI.o.z HI.o.k0 HI.o.k1 HI.o.e0 HI.o.e1 HI.o.m0 HI.o.m1
 rw [hd] at hf HG1 HQ HQ0
 rw [hv] at HV
 simp only [hd,hv] at HRD
 clear hd hv
 obtain ⟨q,hq⟩:∃q,d.low x.z x.r=q:=⟨_,rfl⟩
 rw [hq] at E HQ HQ0
 clear hq
 have HF:=hide (Pl.bI HG1.o)
 have HVQ:=hide HQ0
 have E2:Hid (d.two' x q v=(d.aF (Pl.jm x.z 0 q v)).put x.z x.r (Pl.qY x.z 0 q v)):=hide (by unfold Pl.Mc.two';rw [HOP.o];rfl)
 have HVV:Hid (Pl.okv x.z (Pl.qY x.z 0 q v)=true):=hide (Pl.vJ HVQ.o)
 have HGF:=hide (HG1.o.aF (v:=Pl.jm x.z 0 q v) (Pl.yV x.z 0 q v).1 (Pl.yV x.z 0 q v).2).g
 go_enter func116,ntmps116
 go_wp2_with (first|(go_at_call 103;refine (HRD _ HM.o).mono ?_;rintro e9 W_1 ⟨rfl,aW,hm9,hb9⟩;obtain ⟨bu,di,bK⟩:=hb9.nx HX HHB HGB HS;clear hb9;have aY:=hide hm9;obtain ⟨bV,bY,bW,bZ,eX,fA,eY,aZ,bG⟩:=hm9.op;obtain ⟨lV,lD,oI,kF,oH,oG,oD,oC⟩:=aZ.o.c8;clear b0 b1 b2 b3 b4 b5 b6;obtain ⟨b0,b1,b2,b3,b4,b5,b6⟩:=aG bu.o;rw [HOP.o] at b0)|(go_at_call 68;refine st (bT _ lo mid hi p aW _ aY.o) ?_;rw [hf]))
 have HD:=hide (bG.o.any (ae (Kept.refl 0 0 W_1))).d
 have S1D:=cellsS (aZ.o.any (ae (Kept.refl 0 0 W_1))) (bu.o.af (ae (Kept.refl 0 0 W_1)))
 go_region_held3 (fun w'=>w'.cell? ⟨p,0,none⟩=some (.slice (some ⟨bV,0,none⟩) 4 bY)∧w'.cell? ⟨p,1,none⟩=some (.slice (some ⟨bW,0,none⟩) 4 bZ)∧w'.cell? ⟨p,2,none⟩=some (iv d.r.o)∧w'.cell? ⟨p,3,none⟩=some (iv d.r.p)∧w'.cell? ⟨p,4,none⟩=some (iv d.r.f)∧w'.cell? ⟨p,5,none⟩=some (iv d.r.m)∧w'.cell? ⟨p,6,none⟩=some (.bool d.r.s)∧w'.cell? ⟨p,7,none⟩=some (.bool d.r.t)∧w'.cell? ⟨w.heap.size,1,none⟩=some (iv x.z)∧w'.cell? ⟨w.heap.size,2,none⟩=some (iv x.r)) (first|with_reducible exact S1D|with_reducible exact cellsS aP.o dU.o|go_keep) (first|(go_at_call 105;refine (wM _ bV bY bW bZ d.r x.z x.r HD.o HG1.o.g HI.o.z HI.o.r0 HI.o.r1).mono ?_;rw [HQ.o];rintro e9 W_2 ⟨rfl,hk9⟩;have K2:=hide ((ae (Kept.refl 0 0 W_1)).trans hk9);clear hk9;have iy:=hide (aY.o.any K2.o);have aP:=hide (aZ.o.any K2.o);have iE:=hide (bG.o.any K2.o);have dU:=hide (bu.o.af K2.o);have iq:=hide (bK.o.any K2.o);obtain ⟨xK,xJ,xI,uV,sN,xH,xG,xE,sK,sJ,mP,mO,mM,mJ,mG,mF⟩:=aP.o.cells;clear sK sJ mP mO mM mJ mG mF;have yH:=aP.o.frozen 0;have yG:=aP.o.frozen 1;have yF:=aP.o.frozen 2;have vW:=aP.o.frozen 3;have tY:=aP.o.frozen 4;have yE:=aP.o.frozen 5;have yD:=aP.o.frozen 6;have yC:=aP.o.frozen 7;clear b0 b1 b2 b3 b4 b5 b6;obtain ⟨b0,b1,b2,b3,b4,b5,b6⟩:=aG dU.o;rw [HOP.o] at b0;clear lV lD oI kF oH oG oD oC))
 go_wp2_with ((go_at_call 157;refine st (TC _ HVQ.o HV.o) ?_))
 have HBY:=hide ((aP.o.cF (Pl.jm x.z 0 q v)).any (ae (Kept.refl 0 0 (W_2.setCell ⟨p,4,none⟩ (iv (Pl.jm x.z 0 q v))))))
 have HOY:=hide ((iE.o.own (ak _ p 4 (iv (Pl.jm x.z 0 q v)))).any (ae (Kept.refl 0 0 (W_2.setCell ⟨p,4,none⟩ (iv (Pl.jm x.z 0 q v))))))
 have HSY:=hide ((iq.o.set p 4 (iv (Pl.jm x.z 0 q v)) HPH.o).drew)
 have HXY:=hide ((dU.o.other p 4 (iv (Pl.jm x.z 0 q v)) (by have:=HPB.o;omega)).af (ae (Kept.refl 0 0 (W_2.setCell ⟨p,4,none⟩ (iv (Pl.jm x.z 0 q v))))))
 have HRY:=hide (MO.reg (r:=(d.aF (Pl.jm x.z 0 q v)).r) HOY.o)
 have HMY:Hid (mid≤(W_2.setCell ⟨p,4,none⟩ (iv (Pl.jm x.z 0 q v))).drew.heap.size):=hide (Nat.le_trans HMH.o HOY.o.hh)
 have HPM:=HOY.o.p0
 have HNM:Hid (¬(lo≤w.heap.size∧w.heap.size<mid)):=hide (by have:=HHB.o;have:=HMH.o;omega)
 have HNP:Hid (¬(p≤w.heap.size∧w.heap.size<p+1)):=hide (by have:=HPB.o;omega)
 have SYD:=cellsS HBY.o HXY.o
 go_region_held3 (fun w'=>w'.cell? ⟨p,0,none⟩=some (.slice (some ⟨bV,0,none⟩) 4 bY)∧w'.cell? ⟨p,1,none⟩=some (.slice (some ⟨bW,0,none⟩) 4 bZ)∧w'.cell? ⟨p,2,none⟩=some (iv (d.aF (Pl.jm x.z 0 q v)).r.o)∧w'.cell? ⟨p,3,none⟩=some (iv (d.aF (Pl.jm x.z 0 q v)).r.p)∧w'.cell? ⟨p,4,none⟩=some (iv (d.aF (Pl.jm x.z 0 q v)).r.f)∧w'.cell? ⟨p,5,none⟩=some (iv (d.aF (Pl.jm x.z 0 q v)).r.m)∧w'.cell? ⟨p,6,none⟩=some (.bool (d.aF (Pl.jm x.z 0 q v)).r.s)∧w'.cell? ⟨p,7,none⟩=some (.bool (d.aF (Pl.jm x.z 0 q v)).r.t)∧w'.cell? ⟨w.heap.size,1,none⟩=some (iv x.z)∧w'.cell? ⟨w.heap.size,2,none⟩=some (iv x.r)) (first|with_reducible exact SYD|with_reducible exact cellsS aH.o jh.o|exact cellsS (aH.o.laid (Pl.jy (d.aF (Pl.jm x.z 0 q v)).r x.z x.r (Pl.qY x.z 0 q v))) (Blk.kept jh.o (MB.jf _ _ _ _ _ _ _ _) HNP.o)|go_keep) (first|(go_at_call 110;refine (qK _ lo mid bV bY bW bZ (d.aF (Pl.jm x.z 0 q v)).r x.z x.r (Pl.qY x.z 0 q v) HRY.o HMY.o HGF.o HI.o.r0 HI.o.r1 HVV.o).mono ?_;unfold iQ;rintro e9 W_9 ⟨rfl,hr9,hk9⟩;have jX:=hide (HOY.o.regs hr9 hk9);have aH:=hide (HBY.o.regs hk9 HPM);have jh:=hide (Blk.kept HXY.o hk9 HNM.o);have jW:=hide (HSY.o.ai hk9 (Nat.le_refl _) HMH.o);clear hr9 hk9;obtain ⟨u0,u1,u2,u3,u4,u5,u6,u7,_⟩:=aH.o.cells;have f0:=aH.o.frozen 0;have f1:=aH.o.frozen 1;have f2:=aH.o.frozen 2;have f3:=aH.o.frozen 3;have f4:=aH.o.frozen 4;have f5:=aH.o.frozen 5;have f6:=aH.o.frozen 6;have f7:=aH.o.frozen 7))
 go_wp2_with fail
 first|go_end0|refine bodyPost_ret (results_none rfl _ _ _) rfl ?_
 exact ⟨rfl,aW,by rw [E.o,E2.o];exact MAt.laid aH.o jX.o,fM jW.o HPH.o _ _ _ _ _ _ _ _⟩
theorem Jg (w:World) (lo mid hi p g2:Nat) (c:Pl.Mc) (x:Pl.In) (h:MAt w lo mid hi p g2 c) (G:Pl.GM c) (B:Pl.InB x) (h1:x.m=1→x.z=2) (hf:(c.read x.z x.m x.k x.e).fine=true) (ho:x.op=4) :
  Calls prog 116 #[.pointer (some ⟨p,0,none⟩),.agg (inX x)] w fun e w'=>e=.returned (.tuple #[])∧∃g3,MAt w' lo mid hi p g3 (c.two x)∧Since w lo hi g2 w' g3:=by
 have HG:=hide G
 have HI:=hide B
 have HV:=hide (Pl.dC G B.z B.k0 B.k1 B.e0 B.e1 h1 B.n7)
 have HG1:=hide (G.read (m:=x.m) B.z B.k0 B.k1 B.e0 B.e1)
 have HOP:=hide ho
 clear ho
 have hl:=h.lo
 obtain ⟨X,hX,KA,HX,hbw,HHB,HGB,HPH,HPB,HMH,HS,HM⟩:=h.dS x
 obtain ⟨b0,b1,b2,b3,b4,b5,b6⟩:=aG HX.o
 rw [HOP.o] at b0
 clear h
 obtain ⟨gd,cd,ga,ca,g1,c1,c2,HB,HO⟩:=HM.o.op
 clear G B h1
 have HQ:Hid (el (c.read x.z x.m x.k x.e).r.xs x.r.toNat%Pl.top x.z=(c.read x.z x.m x.k x.e).low x.z x.r):=hide rfl
 have HQ0:=Pl.fP HG1.o HI.o.z HI.o.r0 HI.o.r1
 obtain ⟨d,hd⟩:∃d,c.read x.z x.m x.k x.e=d:=⟨_,rfl⟩
 obtain ⟨v,hv⟩:∃v,c.bf x.z x.m x.k x.e=v:=⟨_,rfl⟩
 have E:Hid (c.two x=d.two' x (d.low x.z x.r) v):=hide (by unfold Pl.Mc.two;rw [hf,hd,hv];rfl)
 have HRD:=fun w9 h9=>jM w9 lo mid hi p g2 c x.z x.m x.k x.e h9 HG.o HI.o.z HI.o.k0 HI.o.k1 HI.o.e0 HI.o.e1 HI.o.m0 HI.o.m1
 rw [hd] at hf HG1 HQ HQ0
 rw [hv] at HV
 simp only [hd,hv] at HRD
 clear hd hv
 obtain ⟨q,hq⟩:∃q,d.low x.z x.r=q:=⟨_,rfl⟩
 rw [hq] at E HQ HQ0
 clear hq
 have HF:=hide (Pl.bI HG1.o)
 have HVQ:=hide HQ0
 have E2:Hid (d.two' x q v=(d.aF (Pl.gJ x.z 0 q v)).put x.z x.r (Pl.kV x.z 0 q v)):=hide (by unfold Pl.Mc.two';rw [HOP.o];rfl)
 have HVV:Hid (Pl.okv x.z (Pl.kV x.z 0 q v)=true):=hide (Pl.mW HI.o.z)
 have HGF:=hide (HG1.o.aF (v:=Pl.gJ x.z 0 q v) (Pl.lI x.z 0 q v).1 (Pl.lI x.z 0 q v).2).g
 go_enter func116,ntmps116
 go_wp2_with (first|(go_at_call 103;refine (HRD _ HM.o).mono ?_;rintro e9 W_1 ⟨rfl,aW,hm9,hb9⟩;obtain ⟨bu,di,bK⟩:=hb9.nx HX HHB HGB HS;clear hb9;have aY:=hide hm9;obtain ⟨bV,bY,bW,bZ,eX,fA,eY,aZ,bG⟩:=hm9.op;obtain ⟨lV,lD,oI,kF,oH,oG,oD,oC⟩:=aZ.o.c8;clear b0 b1 b2 b3 b4 b5 b6;obtain ⟨b0,b1,b2,b3,b4,b5,b6⟩:=aG bu.o;rw [HOP.o] at b0)|(go_at_call 68;refine st (bT _ lo mid hi p aW _ aY.o) ?_;rw [hf]))
 have HD:=hide (bG.o.any (ae (Kept.refl 0 0 W_1))).d
 have S1D:=cellsS (aZ.o.any (ae (Kept.refl 0 0 W_1))) (bu.o.af (ae (Kept.refl 0 0 W_1)))
 go_region_held3 (fun w'=>w'.cell? ⟨p,0,none⟩=some (.slice (some ⟨bV,0,none⟩) 4 bY)∧w'.cell? ⟨p,1,none⟩=some (.slice (some ⟨bW,0,none⟩) 4 bZ)∧w'.cell? ⟨p,2,none⟩=some (iv d.r.o)∧w'.cell? ⟨p,3,none⟩=some (iv d.r.p)∧w'.cell? ⟨p,4,none⟩=some (iv d.r.f)∧w'.cell? ⟨p,5,none⟩=some (iv d.r.m)∧w'.cell? ⟨p,6,none⟩=some (.bool d.r.s)∧w'.cell? ⟨p,7,none⟩=some (.bool d.r.t)∧w'.cell? ⟨w.heap.size,1,none⟩=some (iv x.z)∧w'.cell? ⟨w.heap.size,2,none⟩=some (iv x.r)) (first|with_reducible exact S1D|with_reducible exact cellsS aP.o dU.o|go_keep) (first|(go_at_call 105;refine (wM _ bV bY bW bZ d.r x.z x.r HD.o HG1.o.g HI.o.z HI.o.r0 HI.o.r1).mono ?_;rw [HQ.o];rintro e9 W_2 ⟨rfl,hk9⟩;have K2:=hide ((ae (Kept.refl 0 0 W_1)).trans hk9);clear hk9;have iy:=hide (aY.o.any K2.o);have aP:=hide (aZ.o.any K2.o);have iE:=hide (bG.o.any K2.o);have dU:=hide (bu.o.af K2.o);have iq:=hide (bK.o.any K2.o);obtain ⟨xK,xJ,xI,uV,sN,xH,xG,xE,sK,sJ,mP,mO,mM,mJ,mG,mF⟩:=aP.o.cells;clear sK sJ mP mO mM mJ mG mF;have yH:=aP.o.frozen 0;have yG:=aP.o.frozen 1;have yF:=aP.o.frozen 2;have vW:=aP.o.frozen 3;have tY:=aP.o.frozen 4;have yE:=aP.o.frozen 5;have yD:=aP.o.frozen 6;have yC:=aP.o.frozen 7;clear b0 b1 b2 b3 b4 b5 b6;obtain ⟨b0,b1,b2,b3,b4,b5,b6⟩:=aG dU.o;rw [HOP.o] at b0;clear lV lD oI kF oH oG oD oC))
 go_wp2_with ((go_at_call 145;refine st (yh _ _ _ _ _ (Pl.uU HVQ.o HV.o)) ?_))
 have HBY:=hide ((aP.o.cF (Pl.gJ x.z 0 q v)).any (ae (Kept.refl 0 0 (W_2.setCell ⟨p,4,none⟩ (iv (Pl.gJ x.z 0 q v))))))
 have HOY:=hide ((iE.o.own (ak _ p 4 (iv (Pl.gJ x.z 0 q v)))).any (ae (Kept.refl 0 0 (W_2.setCell ⟨p,4,none⟩ (iv (Pl.gJ x.z 0 q v))))))
 have HSY:=hide ((iq.o.set p 4 (iv (Pl.gJ x.z 0 q v)) HPH.o).drew)
 have HXY:=hide ((dU.o.other p 4 (iv (Pl.gJ x.z 0 q v)) (by have:=HPB.o;omega)).af (ae (Kept.refl 0 0 (W_2.setCell ⟨p,4,none⟩ (iv (Pl.gJ x.z 0 q v))))))
 have HRY:=hide (MO.reg (r:=(d.aF (Pl.gJ x.z 0 q v)).r) HOY.o)
 have HMY:Hid (mid≤(W_2.setCell ⟨p,4,none⟩ (iv (Pl.gJ x.z 0 q v))).drew.heap.size):=hide (Nat.le_trans HMH.o HOY.o.hh)
 have HPM:=HOY.o.p0
 have HNM:Hid (¬(lo≤w.heap.size∧w.heap.size<mid)):=hide (by have:=HHB.o;have:=HMH.o;omega)
 have HNP:Hid (¬(p≤w.heap.size∧w.heap.size<p+1)):=hide (by have:=HPB.o;omega)
 have SYD:=cellsS HBY.o HXY.o
 go_region_held3 (fun w'=>w'.cell? ⟨p,0,none⟩=some (.slice (some ⟨bV,0,none⟩) 4 bY)∧w'.cell? ⟨p,1,none⟩=some (.slice (some ⟨bW,0,none⟩) 4 bZ)∧w'.cell? ⟨p,2,none⟩=some (iv (d.aF (Pl.gJ x.z 0 q v)).r.o)∧w'.cell? ⟨p,3,none⟩=some (iv (d.aF (Pl.gJ x.z 0 q v)).r.p)∧w'.cell? ⟨p,4,none⟩=some (iv (d.aF (Pl.gJ x.z 0 q v)).r.f)∧w'.cell? ⟨p,5,none⟩=some (iv (d.aF (Pl.gJ x.z 0 q v)).r.m)∧w'.cell? ⟨p,6,none⟩=some (.bool (d.aF (Pl.gJ x.z 0 q v)).r.s)∧w'.cell? ⟨p,7,none⟩=some (.bool (d.aF (Pl.gJ x.z 0 q v)).r.t)∧w'.cell? ⟨w.heap.size,1,none⟩=some (iv x.z)∧w'.cell? ⟨w.heap.size,2,none⟩=some (iv x.r)) (first|with_reducible exact SYD|with_reducible exact cellsS aH.o jh.o|exact cellsS (aH.o.laid (Pl.jy (d.aF (Pl.gJ x.z 0 q v)).r x.z x.r (Pl.kV x.z 0 q v))) (Blk.kept jh.o (MB.jf _ _ _ _ _ _ _ _) HNP.o)|go_keep) (first|(go_at_call 110;refine (qK _ lo mid bV bY bW bZ (d.aF (Pl.gJ x.z 0 q v)).r x.z x.r (Pl.kV x.z 0 q v) HRY.o HMY.o HGF.o HI.o.r0 HI.o.r1 HVV.o).mono ?_;unfold iQ;rintro e9 W_9 ⟨rfl,hr9,hk9⟩;have jX:=hide (HOY.o.regs hr9 hk9);have aH:=hide (HBY.o.regs hk9 HPM);have jh:=hide (Blk.kept HXY.o hk9 HNM.o);have jW:=hide (HSY.o.ai hk9 (Nat.le_refl _) HMH.o);clear hr9 hk9;obtain ⟨u0,u1,u2,u3,u4,u5,u6,u7,_⟩:=aH.o.cells;have f0:=aH.o.frozen 0;have f1:=aH.o.frozen 1;have f2:=aH.o.frozen 2;have f3:=aH.o.frozen 3;have f4:=aH.o.frozen 4;have f5:=aH.o.frozen 5;have f6:=aH.o.frozen 6;have f7:=aH.o.frozen 7))
 go_wp2_with fail
 first|go_end0|refine bodyPost_ret (results_none rfl _ _ _) rfl ?_
 exact ⟨rfl,aW,by rw [E.o,E2.o];exact MAt.laid aH.o jX.o,fM jW.o HPH.o _ _ _ _ _ _ _ _⟩
theorem Ji (w:World) (lo mid hi p g2:Nat) (c:Pl.Mc) (x:Pl.In) (h:MAt w lo mid hi p g2 c) (G:Pl.GM c) (B:Pl.InB x) (h1:x.m=1→x.z=2) (hf:(c.read x.z x.m x.k x.e).fine=true) (ho:x.op=5) :
  Calls prog 116 #[.pointer (some ⟨p,0,none⟩),.agg (inX x)] w fun e w'=>e=.returned (.tuple #[])∧∃g3,MAt w' lo mid hi p g3 (c.two x)∧Since w lo hi g2 w' g3:=by
 have HG:=hide G
 have HI:=hide B
 have HV:=hide (Pl.dC G B.z B.k0 B.k1 B.e0 B.e1 h1 B.n7)
 have HG1:=hide (G.read (m:=x.m) B.z B.k0 B.k1 B.e0 B.e1)
 have HOP:=hide ho
 clear ho
 have hl:=h.lo
 obtain ⟨X,hX,KA,HX,hbw,HHB,HGB,HPH,HPB,HMH,HS,HM⟩:=h.dS x
 obtain ⟨b0,b1,b2,b3,b4,b5,b6⟩:=aG HX.o
 rw [HOP.o] at b0
 clear h
 obtain ⟨gd,cd,ga,ca,g1,c1,c2,HB,HO⟩:=HM.o.op
 clear G B h1
 have HQ:Hid (el (c.read x.z x.m x.k x.e).r.xs x.r.toNat%Pl.top x.z=(c.read x.z x.m x.k x.e).low x.z x.r):=hide rfl
 have HQ0:=Pl.fP HG1.o HI.o.z HI.o.r0 HI.o.r1
 obtain ⟨d,hd⟩:∃d,c.read x.z x.m x.k x.e=d:=⟨_,rfl⟩
 obtain ⟨v,hv⟩:∃v,c.bf x.z x.m x.k x.e=v:=⟨_,rfl⟩
 have E:Hid (c.two x=d.two' x (d.low x.z x.r) v):=hide (by unfold Pl.Mc.two;rw [hf,hd,hv];rfl)
 have HRD:=fun w9 h9=>jM w9 lo mid hi p g2 c x.z x.m x.k x.e h9 HG.o HI.o.z HI.o.k0 HI.o.k1 HI.o.e0 HI.o.e1 HI.o.m0 HI.o.m1
 rw [hd] at hf HG1 HQ HQ0
 rw [hv] at HV
 simp only [hd,hv] at HRD
 clear hd hv
 obtain ⟨q,hq⟩:∃q,d.low x.z x.r=q:=⟨_,rfl⟩
 rw [hq] at E HQ HQ0
 clear hq
 have HF:=hide (Pl.bI HG1.o)
 have HVQ:=hide HQ0
 have E2:Hid (d.two' x q v=(d.aF (Pl.aS x.z d.r.f (bits .and .i64 q v))).put x.z x.r (bits .and .i64 q v)):=hide (by unfold Pl.Mc.two';rw [HOP.o];rfl)
 have HVV:Hid (Pl.okv x.z (bits .and .i64 q v)=true):=hide ((Pl.mX HVQ.o HV.o).1)
 have HGF:=hide (HG1.o.aF (v:=Pl.aS x.z d.r.f (bits .and .i64 q v)) (Pl.eG x.z d.r.f (bits .and .i64 q v) HVV.o HF.o).1 (Pl.eG x.z d.r.f (bits .and .i64 q v) HVV.o HF.o).2).g
 go_enter func116,ntmps116
 go_wp2_with (first|(go_at_call 103;refine (HRD _ HM.o).mono ?_;rintro e9 W_1 ⟨rfl,aW,hm9,hb9⟩;obtain ⟨bu,di,bK⟩:=hb9.nx HX HHB HGB HS;clear hb9;have aY:=hide hm9;obtain ⟨bV,bY,bW,bZ,eX,fA,eY,aZ,bG⟩:=hm9.op;obtain ⟨lV,lD,oI,kF,oH,oG,oD,oC⟩:=aZ.o.c8;clear b0 b1 b2 b3 b4 b5 b6;obtain ⟨b0,b1,b2,b3,b4,b5,b6⟩:=aG bu.o;rw [HOP.o] at b0)|(go_at_call 68;refine st (bT _ lo mid hi p aW _ aY.o) ?_;rw [hf]))
 have HD:=hide (bG.o.any (ae (Kept.refl 0 0 W_1))).d
 have S1D:=cellsS (aZ.o.any (ae (Kept.refl 0 0 W_1))) (bu.o.af (ae (Kept.refl 0 0 W_1)))
 go_region_held3 (fun w'=>w'.cell? ⟨p,0,none⟩=some (.slice (some ⟨bV,0,none⟩) 4 bY)∧w'.cell? ⟨p,1,none⟩=some (.slice (some ⟨bW,0,none⟩) 4 bZ)∧w'.cell? ⟨p,2,none⟩=some (iv d.r.o)∧w'.cell? ⟨p,3,none⟩=some (iv d.r.p)∧w'.cell? ⟨p,4,none⟩=some (iv d.r.f)∧w'.cell? ⟨p,5,none⟩=some (iv d.r.m)∧w'.cell? ⟨p,6,none⟩=some (.bool d.r.s)∧w'.cell? ⟨p,7,none⟩=some (.bool d.r.t)∧w'.cell? ⟨w.heap.size,1,none⟩=some (iv x.z)∧w'.cell? ⟨w.heap.size,2,none⟩=some (iv x.r)) (first|with_reducible exact S1D|with_reducible exact cellsS aP.o dU.o|go_keep) (first|(go_at_call 105;refine (wM _ bV bY bW bZ d.r x.z x.r HD.o HG1.o.g HI.o.z HI.o.r0 HI.o.r1).mono ?_;rw [HQ.o];rintro e9 W_2 ⟨rfl,hk9⟩;have K2:=hide ((ae (Kept.refl 0 0 W_1)).trans hk9);clear hk9;have iy:=hide (aY.o.any K2.o);have aP:=hide (aZ.o.any K2.o);have iE:=hide (bG.o.any K2.o);have dU:=hide (bu.o.af K2.o);have iq:=hide (bK.o.any K2.o);obtain ⟨xK,xJ,xI,uV,sN,xH,xG,xE,sK,sJ,mP,mO,mM,mJ,mG,mF⟩:=aP.o.cells;clear sK sJ mP mO mM mJ mG mF;have yH:=aP.o.frozen 0;have yG:=aP.o.frozen 1;have yF:=aP.o.frozen 2;have vW:=aP.o.frozen 3;have tY:=aP.o.frozen 4;have yE:=aP.o.frozen 5;have yD:=aP.o.frozen 6;have yC:=aP.o.frozen 7;clear b0 b1 b2 b3 b4 b5 b6;obtain ⟨b0,b1,b2,b3,b4,b5,b6⟩:=aG dU.o;rw [HOP.o] at b0;clear lV lD oI kF oH oG oD oC))
 go_wp2_with ((go_at_call 107;refine st (gQ _ HVV.o HF.o) ?_))
 have HBY:=hide ((aP.o.cF (Pl.aS x.z d.r.f (bits .and .i64 q v))).any (ae (Kept.refl 0 0 (W_2.setCell ⟨p,4,none⟩ (iv (Pl.aS x.z d.r.f (bits .and .i64 q v)))))))
 have HOY:=hide ((iE.o.own (ak _ p 4 (iv (Pl.aS x.z d.r.f (bits .and .i64 q v))))).any (ae (Kept.refl 0 0 (W_2.setCell ⟨p,4,none⟩ (iv (Pl.aS x.z d.r.f (bits .and .i64 q v)))))))
 have HSY:=hide ((iq.o.set p 4 (iv (Pl.aS x.z d.r.f (bits .and .i64 q v))) HPH.o).drew)
 have HXY:=hide ((dU.o.other p 4 (iv (Pl.aS x.z d.r.f (bits .and .i64 q v))) (by have:=HPB.o;omega)).af (ae (Kept.refl 0 0 (W_2.setCell ⟨p,4,none⟩ (iv (Pl.aS x.z d.r.f (bits .and .i64 q v)))))))
 have HRY:=hide (MO.reg (r:=(d.aF (Pl.aS x.z d.r.f (bits .and .i64 q v))).r) HOY.o)
 have HMY:Hid (mid≤(W_2.setCell ⟨p,4,none⟩ (iv (Pl.aS x.z d.r.f (bits .and .i64 q v)))).drew.heap.size):=hide (Nat.le_trans HMH.o HOY.o.hh)
 have HPM:=HOY.o.p0
 have HNM:Hid (¬(lo≤w.heap.size∧w.heap.size<mid)):=hide (by have:=HHB.o;have:=HMH.o;omega)
 have HNP:Hid (¬(p≤w.heap.size∧w.heap.size<p+1)):=hide (by have:=HPB.o;omega)
 have SYD:=cellsS HBY.o HXY.o
 go_region_held3 (fun w'=>w'.cell? ⟨p,0,none⟩=some (.slice (some ⟨bV,0,none⟩) 4 bY)∧w'.cell? ⟨p,1,none⟩=some (.slice (some ⟨bW,0,none⟩) 4 bZ)∧w'.cell? ⟨p,2,none⟩=some (iv (d.aF (Pl.aS x.z d.r.f (bits .and .i64 q v))).r.o)∧w'.cell? ⟨p,3,none⟩=some (iv (d.aF (Pl.aS x.z d.r.f (bits .and .i64 q v))).r.p)∧w'.cell? ⟨p,4,none⟩=some (iv (d.aF (Pl.aS x.z d.r.f (bits .and .i64 q v))).r.f)∧w'.cell? ⟨p,5,none⟩=some (iv (d.aF (Pl.aS x.z d.r.f (bits .and .i64 q v))).r.m)∧w'.cell? ⟨p,6,none⟩=some (.bool (d.aF (Pl.aS x.z d.r.f (bits .and .i64 q v))).r.s)∧w'.cell? ⟨p,7,none⟩=some (.bool (d.aF (Pl.aS x.z d.r.f (bits .and .i64 q v))).r.t)∧w'.cell? ⟨w.heap.size,1,none⟩=some (iv x.z)∧w'.cell? ⟨w.heap.size,2,none⟩=some (iv x.r)) (first|with_reducible exact SYD|with_reducible exact cellsS aH.o jh.o|exact cellsS (aH.o.laid (Pl.jy (d.aF (Pl.aS x.z d.r.f (bits .and .i64 q v))).r x.z x.r (bits .and .i64 q v))) (Blk.kept jh.o (MB.jf _ _ _ _ _ _ _ _) HNP.o)|go_keep) (first|(go_at_call 110;refine (qK _ lo mid bV bY bW bZ (d.aF (Pl.aS x.z d.r.f (bits .and .i64 q v))).r x.z x.r (bits .and .i64 q v) HRY.o HMY.o HGF.o HI.o.r0 HI.o.r1 HVV.o).mono ?_;unfold iQ;rintro e9 W_9 ⟨rfl,hr9,hk9⟩;have jX:=hide (HOY.o.regs hr9 hk9);have aH:=hide (HBY.o.regs hk9 HPM);have jh:=hide (Blk.kept HXY.o hk9 HNM.o);have jW:=hide (HSY.o.ai hk9 (Nat.le_refl _) HMH.o);clear hr9 hk9;obtain ⟨u0,u1,u2,u3,u4,u5,u6,u7,_⟩:=aH.o.cells;have f0:=aH.o.frozen 0;have f1:=aH.o.frozen 1;have f2:=aH.o.frozen 2;have f3:=aH.o.frozen 3;have f4:=aH.o.frozen 4;have f5:=aH.o.frozen 5;have f6:=aH.o.frozen 6;have f7:=aH.o.frozen 7))
 go_wp2_with fail
 first|go_end0|refine bodyPost_ret (results_none rfl _ _ _) rfl ?_
 exact ⟨rfl,aW,by rw [E.o,E2.o];exact MAt.laid aH.o jX.o,fM jW.o HPH.o _ _ _ _ _ _ _ _⟩
theorem Oq (w:World) (lo mid hi p g2:Nat) (c:Pl.Mc) (x:Pl.In) (h:MAt w lo mid hi p g2 c) (G:Pl.GM c) (B:Pl.InB x) (h1:x.m=1→x.z=2) (hf:(c.read x.z x.m x.k x.e).fine=true) (ho:x.op=6) :
  Calls prog 116 #[.pointer (some ⟨p,0,none⟩),.agg (inX x)] w fun e w'=>e=.returned (.tuple #[])∧∃g3,MAt w' lo mid hi p g3 (c.two x)∧Since w lo hi g2 w' g3:=by
 have HG:=hide G
 have HI:=hide B
 have HV:=hide (Pl.dC G B.z B.k0 B.k1 B.e0 B.e1 h1 B.n7)
 have HG1:=hide (G.read (m:=x.m) B.z B.k0 B.k1 B.e0 B.e1)
 have HOP:=hide ho
 clear ho
 have hl:=h.lo
 obtain ⟨X,hX,KA,HX,hbw,HHB,HGB,HPH,HPB,HMH,HS,HM⟩:=h.dS x
 obtain ⟨b0,b1,b2,b3,b4,b5,b6⟩:=aG HX.o
 rw [HOP.o] at b0
 clear h
 obtain ⟨gd,cd,ga,ca,g1,c1,c2,HB,HO⟩:=HM.o.op
 clear G B h1
 have HQ:Hid (el (c.read x.z x.m x.k x.e).r.xs x.r.toNat%Pl.top x.z=(c.read x.z x.m x.k x.e).low x.z x.r):=hide rfl
 have HQ0:=Pl.fP HG1.o HI.o.z HI.o.r0 HI.o.r1
 obtain ⟨d,hd⟩:∃d,c.read x.z x.m x.k x.e=d:=⟨_,rfl⟩
 obtain ⟨v,hv⟩:∃v,c.bf x.z x.m x.k x.e=v:=⟨_,rfl⟩
 have E:Hid (c.two x=d.two' x (d.low x.z x.r) v):=hide (by unfold Pl.Mc.two;rw [hf,hd,hv];rfl)
 have HRD:=fun w9 h9=>jM w9 lo mid hi p g2 c x.z x.m x.k x.e h9 HG.o HI.o.z HI.o.k0 HI.o.k1 HI.o.e0 HI.o.e1 HI.o.m0 HI.o.m1
 rw [hd] at hf HG1 HQ HQ0
 rw [hv] at HV
 simp only [hd,hv] at HRD
 clear hd hv
 obtain ⟨q,hq⟩:∃q,d.low x.z x.r=q:=⟨_,rfl⟩
 rw [hq] at E HQ HQ0
 clear hq
 have HF:=hide (Pl.bI HG1.o)
 have HVQ:=hide HQ0
 have E2:Hid (d.two' x q v=(d.aF (Pl.aS x.z d.r.f (bits .or .i64 q v))).put x.z x.r (bits .or .i64 q v)):=hide (by unfold Pl.Mc.two';rw [HOP.o];rfl)
 have HVV:Hid (Pl.okv x.z (bits .or .i64 q v)=true):=hide ((Pl.mX HVQ.o HV.o).2.1)
 have HGF:=hide (HG1.o.aF (v:=Pl.aS x.z d.r.f (bits .or .i64 q v)) (Pl.eG x.z d.r.f (bits .or .i64 q v) HVV.o HF.o).1 (Pl.eG x.z d.r.f (bits .or .i64 q v) HVV.o HF.o).2).g
 go_enter func116,ntmps116
 go_wp2_with (first|(go_at_call 103;refine (HRD _ HM.o).mono ?_;rintro e9 W_1 ⟨rfl,aW,hm9,hb9⟩;obtain ⟨bu,di,bK⟩:=hb9.nx HX HHB HGB HS;clear hb9;have aY:=hide hm9;obtain ⟨bV,bY,bW,bZ,eX,fA,eY,aZ,bG⟩:=hm9.op;obtain ⟨lV,lD,oI,kF,oH,oG,oD,oC⟩:=aZ.o.c8;clear b0 b1 b2 b3 b4 b5 b6;obtain ⟨b0,b1,b2,b3,b4,b5,b6⟩:=aG bu.o;rw [HOP.o] at b0)|(go_at_call 68;refine st (bT _ lo mid hi p aW _ aY.o) ?_;rw [hf]))
 have HD:=hide (bG.o.any (ae (Kept.refl 0 0 W_1))).d
 have S1D:=cellsS (aZ.o.any (ae (Kept.refl 0 0 W_1))) (bu.o.af (ae (Kept.refl 0 0 W_1)))
 go_region_held3 (fun w'=>w'.cell? ⟨p,0,none⟩=some (.slice (some ⟨bV,0,none⟩) 4 bY)∧w'.cell? ⟨p,1,none⟩=some (.slice (some ⟨bW,0,none⟩) 4 bZ)∧w'.cell? ⟨p,2,none⟩=some (iv d.r.o)∧w'.cell? ⟨p,3,none⟩=some (iv d.r.p)∧w'.cell? ⟨p,4,none⟩=some (iv d.r.f)∧w'.cell? ⟨p,5,none⟩=some (iv d.r.m)∧w'.cell? ⟨p,6,none⟩=some (.bool d.r.s)∧w'.cell? ⟨p,7,none⟩=some (.bool d.r.t)∧w'.cell? ⟨w.heap.size,1,none⟩=some (iv x.z)∧w'.cell? ⟨w.heap.size,2,none⟩=some (iv x.r)) (first|with_reducible exact S1D|with_reducible exact cellsS aP.o dU.o|go_keep) (first|(go_at_call 105;refine (wM _ bV bY bW bZ d.r x.z x.r HD.o HG1.o.g HI.o.z HI.o.r0 HI.o.r1).mono ?_;rw [HQ.o];rintro e9 W_2 ⟨rfl,hk9⟩;have K2:=hide ((ae (Kept.refl 0 0 W_1)).trans hk9);clear hk9;have iy:=hide (aY.o.any K2.o);have aP:=hide (aZ.o.any K2.o);have iE:=hide (bG.o.any K2.o);have dU:=hide (bu.o.af K2.o);have iq:=hide (bK.o.any K2.o);obtain ⟨xK,xJ,xI,uV,sN,xH,xG,xE,sK,sJ,mP,mO,mM,mJ,mG,mF⟩:=aP.o.cells;clear sK sJ mP mO mM mJ mG mF;have yH:=aP.o.frozen 0;have yG:=aP.o.frozen 1;have yF:=aP.o.frozen 2;have vW:=aP.o.frozen 3;have tY:=aP.o.frozen 4;have yE:=aP.o.frozen 5;have yD:=aP.o.frozen 6;have yC:=aP.o.frozen 7;clear b0 b1 b2 b3 b4 b5 b6;obtain ⟨b0,b1,b2,b3,b4,b5,b6⟩:=aG dU.o;rw [HOP.o] at b0;clear lV lD oI kF oH oG oD oC))
 go_wp2_with ((go_at_call 107;refine st (gQ _ HVV.o HF.o) ?_))
 have HBY:=hide ((aP.o.cF (Pl.aS x.z d.r.f (bits .or .i64 q v))).any (ae (Kept.refl 0 0 (W_2.setCell ⟨p,4,none⟩ (iv (Pl.aS x.z d.r.f (bits .or .i64 q v)))))))
 have HOY:=hide ((iE.o.own (ak _ p 4 (iv (Pl.aS x.z d.r.f (bits .or .i64 q v))))).any (ae (Kept.refl 0 0 (W_2.setCell ⟨p,4,none⟩ (iv (Pl.aS x.z d.r.f (bits .or .i64 q v)))))))
 have HSY:=hide ((iq.o.set p 4 (iv (Pl.aS x.z d.r.f (bits .or .i64 q v))) HPH.o).drew)
 have HXY:=hide ((dU.o.other p 4 (iv (Pl.aS x.z d.r.f (bits .or .i64 q v))) (by have:=HPB.o;omega)).af (ae (Kept.refl 0 0 (W_2.setCell ⟨p,4,none⟩ (iv (Pl.aS x.z d.r.f (bits .or .i64 q v)))))))
 have HRY:=hide (MO.reg (r:=(d.aF (Pl.aS x.z d.r.f (bits .or .i64 q v))).r) HOY.o)
 have HMY:Hid (mid≤(W_2.setCell ⟨p,4,none⟩ (iv (Pl.aS x.z d.r.f (bits .or .i64 q v)))).drew.heap.size):=hide (Nat.le_trans HMH.o HOY.o.hh)
 have HPM:=HOY.o.p0
 have HNM:Hid (¬(lo≤w.heap.size∧w.heap.size<mid)):=hide (by have:=HHB.o;have:=HMH.o;omega)
 have HNP:Hid (¬(p≤w.heap.size∧w.heap.size<p+1)):=hide (by have:=HPB.o;omega)
 have SYD:=cellsS HBY.o HXY.o
 go_region_held3 (fun w'=>w'.cell? ⟨p,0,none⟩=some (.slice (some ⟨bV,0,none⟩) 4 bY)∧w'.cell? ⟨p,1,none⟩=some (.slice (some ⟨bW,0,none⟩) 4 bZ)∧w'.cell? ⟨p,2,none⟩=some (iv (d.aF (Pl.aS x.z d.r.f (bits .or .i64 q v))).r.o)∧w'.cell? ⟨p,3,none⟩=some (iv (d.aF (Pl.aS x.z d.r.f (bits .or .i64 q v))).r.p)∧w'.cell? ⟨p,4,none⟩=some (iv (d.aF (Pl.aS x.z d.r.f (bits .or .i64 q v))).r.f)∧w'.cell? ⟨p,5,none⟩=some (iv (d.aF (Pl.aS x.z d.r.f (bits .or .i64 q v))).r.m)∧w'.cell? ⟨p,6,none⟩=some (.bool (d.aF (Pl.aS x.z d.r.f (bits .or .i64 q v))).r.s)∧w'.cell? ⟨p,7,none⟩=some (.bool (d.aF (Pl.aS x.z d.r.f (bits .or .i64 q v))).r.t)∧w'.cell? ⟨w.heap.size,1,none⟩=some (iv x.z)∧w'.cell? ⟨w.heap.size,2,none⟩=some (iv x.r)) (first|with_reducible exact SYD|with_reducible exact cellsS aH.o jh.o|exact cellsS (aH.o.laid (Pl.jy (d.aF (Pl.aS x.z d.r.f (bits .or .i64 q v))).r x.z x.r (bits .or .i64 q v))) (Blk.kept jh.o (MB.jf _ _ _ _ _ _ _ _) HNP.o)|go_keep) (first|(go_at_call 110;refine (qK _ lo mid bV bY bW bZ (d.aF (Pl.aS x.z d.r.f (bits .or .i64 q v))).r x.z x.r (bits .or .i64 q v) HRY.o HMY.o HGF.o HI.o.r0 HI.o.r1 HVV.o).mono ?_;unfold iQ;rintro e9 W_9 ⟨rfl,hr9,hk9⟩;have jX:=hide (HOY.o.regs hr9 hk9);have aH:=hide (HBY.o.regs hk9 HPM);have jh:=hide (Blk.kept HXY.o hk9 HNM.o);have jW:=hide (HSY.o.ai hk9 (Nat.le_refl _) HMH.o);clear hr9 hk9;obtain ⟨u0,u1,u2,u3,u4,u5,u6,u7,_⟩:=aH.o.cells;have f0:=aH.o.frozen 0;have f1:=aH.o.frozen 1;have f2:=aH.o.frozen 2;have f3:=aH.o.frozen 3;have f4:=aH.o.frozen 4;have f5:=aH.o.frozen 5;have f6:=aH.o.frozen 6;have f7:=aH.o.frozen 7))
 go_wp2_with fail
 first|go_end0|refine bodyPost_ret (results_none rfl _ _ _) rfl ?_
 exact ⟨rfl,aW,by rw [E.o,E2.o];exact MAt.laid aH.o jX.o,fM jW.o HPH.o _ _ _ _ _ _ _ _⟩
theorem Jf (w:World) (lo mid hi p g2:Nat) (c:Pl.Mc) (x:Pl.In) (h:MAt w lo mid hi p g2 c) (G:Pl.GM c) (B:Pl.InB x) (h1:x.m=1→x.z=2) (hf:(c.read x.z x.m x.k x.e).fine=true) (ho:x.op=7) :
  Calls prog 116 #[.pointer (some ⟨p,0,none⟩),.agg (inX x)] w fun e w'=>e=.returned (.tuple #[])∧∃g3,MAt w' lo mid hi p g3 (c.two x)∧Since w lo hi g2 w' g3:=by
 have HG:=hide G
 have HI:=hide B
 have HV:=hide (Pl.dC G B.z B.k0 B.k1 B.e0 B.e1 h1 B.n7)
 have HG1:=hide (G.read (m:=x.m) B.z B.k0 B.k1 B.e0 B.e1)
 have HOP:=hide ho
 clear ho
 have hl:=h.lo
 obtain ⟨X,hX,KA,HX,hbw,HHB,HGB,HPH,HPB,HMH,HS,HM⟩:=h.dS x
 obtain ⟨b0,b1,b2,b3,b4,b5,b6⟩:=aG HX.o
 rw [HOP.o] at b0
 clear h
 obtain ⟨gd,cd,ga,ca,g1,c1,c2,HB,HO⟩:=HM.o.op
 clear G B h1
 have HQ:Hid (el (c.read x.z x.m x.k x.e).r.xs x.r.toNat%Pl.top x.z=(c.read x.z x.m x.k x.e).low x.z x.r):=hide rfl
 have HQ0:=Pl.fP HG1.o HI.o.z HI.o.r0 HI.o.r1
 obtain ⟨d,hd⟩:∃d,c.read x.z x.m x.k x.e=d:=⟨_,rfl⟩
 obtain ⟨v,hv⟩:∃v,c.bf x.z x.m x.k x.e=v:=⟨_,rfl⟩
 have E:Hid (c.two x=d.two' x (d.low x.z x.r) v):=hide (by unfold Pl.Mc.two;rw [hf,hd,hv];rfl)
 have HRD:=fun w9 h9=>jM w9 lo mid hi p g2 c x.z x.m x.k x.e h9 HG.o HI.o.z HI.o.k0 HI.o.k1 HI.o.e0 HI.o.e1 HI.o.m0 HI.o.m1
 rw [hd] at hf HG1 HQ HQ0
 rw [hv] at HV
 simp only [hd,hv] at HRD
 clear hd hv
 obtain ⟨q,hq⟩:∃q,d.low x.z x.r=q:=⟨_,rfl⟩
 rw [hq] at E HQ HQ0
 clear hq
 have HF:=hide (Pl.bI HG1.o)
 have HVQ:=hide HQ0
 have E2:Hid (d.two' x q v=(d.aF (Pl.aS x.z d.r.f (bits .xor .i64 q v))).put x.z x.r (bits .xor .i64 q v)):=hide (by unfold Pl.Mc.two';rw [HOP.o];rfl)
 have HVV:Hid (Pl.okv x.z (bits .xor .i64 q v)=true):=hide ((Pl.mX HVQ.o HV.o).2.2)
 have HGF:=hide (HG1.o.aF (v:=Pl.aS x.z d.r.f (bits .xor .i64 q v)) (Pl.eG x.z d.r.f (bits .xor .i64 q v) HVV.o HF.o).1 (Pl.eG x.z d.r.f (bits .xor .i64 q v) HVV.o HF.o).2).g
 go_enter func116,ntmps116
 go_wp2_with (first|(go_at_call 103;refine (HRD _ HM.o).mono ?_;rintro e9 W_1 ⟨rfl,aW,hm9,hb9⟩;obtain ⟨bu,di,bK⟩:=hb9.nx HX HHB HGB HS;clear hb9;have aY:=hide hm9;obtain ⟨bV,bY,bW,bZ,eX,fA,eY,aZ,bG⟩:=hm9.op;obtain ⟨lV,lD,oI,kF,oH,oG,oD,oC⟩:=aZ.o.c8;clear b0 b1 b2 b3 b4 b5 b6;obtain ⟨b0,b1,b2,b3,b4,b5,b6⟩:=aG bu.o;rw [HOP.o] at b0)|(go_at_call 68;refine st (bT _ lo mid hi p aW _ aY.o) ?_;rw [hf]))
 have HD:=hide (bG.o.any (ae (Kept.refl 0 0 W_1))).d
 have S1D:=cellsS (aZ.o.any (ae (Kept.refl 0 0 W_1))) (bu.o.af (ae (Kept.refl 0 0 W_1)))
 go_region_held3 (fun w'=>w'.cell? ⟨p,0,none⟩=some (.slice (some ⟨bV,0,none⟩) 4 bY)∧w'.cell? ⟨p,1,none⟩=some (.slice (some ⟨bW,0,none⟩) 4 bZ)∧w'.cell? ⟨p,2,none⟩=some (iv d.r.o)∧w'.cell? ⟨p,3,none⟩=some (iv d.r.p)∧w'.cell? ⟨p,4,none⟩=some (iv d.r.f)∧w'.cell? ⟨p,5,none⟩=some (iv d.r.m)∧w'.cell? ⟨p,6,none⟩=some (.bool d.r.s)∧w'.cell? ⟨p,7,none⟩=some (.bool d.r.t)∧w'.cell? ⟨w.heap.size,1,none⟩=some (iv x.z)∧w'.cell? ⟨w.heap.size,2,none⟩=some (iv x.r)) (first|with_reducible exact S1D|with_reducible exact cellsS aP.o dU.o|go_keep) (first|(go_at_call 105;refine (wM _ bV bY bW bZ d.r x.z x.r HD.o HG1.o.g HI.o.z HI.o.r0 HI.o.r1).mono ?_;rw [HQ.o];rintro e9 W_2 ⟨rfl,hk9⟩;have K2:=hide ((ae (Kept.refl 0 0 W_1)).trans hk9);clear hk9;have iy:=hide (aY.o.any K2.o);have aP:=hide (aZ.o.any K2.o);have iE:=hide (bG.o.any K2.o);have dU:=hide (bu.o.af K2.o);have iq:=hide (bK.o.any K2.o);obtain ⟨xK,xJ,xI,uV,sN,xH,xG,xE,sK,sJ,mP,mO,mM,mJ,mG,mF⟩:=aP.o.cells;clear sK sJ mP mO mM mJ mG mF;have yH:=aP.o.frozen 0;have yG:=aP.o.frozen 1;have yF:=aP.o.frozen 2;have vW:=aP.o.frozen 3;have tY:=aP.o.frozen 4;have yE:=aP.o.frozen 5;have yD:=aP.o.frozen 6;have yC:=aP.o.frozen 7;clear b0 b1 b2 b3 b4 b5 b6;obtain ⟨b0,b1,b2,b3,b4,b5,b6⟩:=aG dU.o;rw [HOP.o] at b0;clear lV lD oI kF oH oG oD oC))
 go_wp2_with ((go_at_call 107;refine st (gQ _ HVV.o HF.o) ?_))
 have HBY:=hide ((aP.o.cF (Pl.aS x.z d.r.f (bits .xor .i64 q v))).any (ae (Kept.refl 0 0 (W_2.setCell ⟨p,4,none⟩ (iv (Pl.aS x.z d.r.f (bits .xor .i64 q v)))))))
 have HOY:=hide ((iE.o.own (ak _ p 4 (iv (Pl.aS x.z d.r.f (bits .xor .i64 q v))))).any (ae (Kept.refl 0 0 (W_2.setCell ⟨p,4,none⟩ (iv (Pl.aS x.z d.r.f (bits .xor .i64 q v)))))))
 have HSY:=hide ((iq.o.set p 4 (iv (Pl.aS x.z d.r.f (bits .xor .i64 q v))) HPH.o).drew)
 have HXY:=hide ((dU.o.other p 4 (iv (Pl.aS x.z d.r.f (bits .xor .i64 q v))) (by have:=HPB.o;omega)).af (ae (Kept.refl 0 0 (W_2.setCell ⟨p,4,none⟩ (iv (Pl.aS x.z d.r.f (bits .xor .i64 q v)))))))
 have HRY:=hide (MO.reg (r:=(d.aF (Pl.aS x.z d.r.f (bits .xor .i64 q v))).r) HOY.o)
 have HMY:Hid (mid≤(W_2.setCell ⟨p,4,none⟩ (iv (Pl.aS x.z d.r.f (bits .xor .i64 q v)))).drew.heap.size):=hide (Nat.le_trans HMH.o HOY.o.hh)
 have HPM:=HOY.o.p0
 have HNM:Hid (¬(lo≤w.heap.size∧w.heap.size<mid)):=hide (by have:=HHB.o;have:=HMH.o;omega)
 have HNP:Hid (¬(p≤w.heap.size∧w.heap.size<p+1)):=hide (by have:=HPB.o;omega)
 have SYD:=cellsS HBY.o HXY.o
 go_region_held3 (fun w'=>w'.cell? ⟨p,0,none⟩=some (.slice (some ⟨bV,0,none⟩) 4 bY)∧w'.cell? ⟨p,1,none⟩=some (.slice (some ⟨bW,0,none⟩) 4 bZ)∧w'.cell? ⟨p,2,none⟩=some (iv (d.aF (Pl.aS x.z d.r.f (bits .xor .i64 q v))).r.o)∧w'.cell? ⟨p,3,none⟩=some (iv (d.aF (Pl.aS x.z d.r.f (bits .xor .i64 q v))).r.p)∧w'.cell? ⟨p,4,none⟩=some (iv (d.aF (Pl.aS x.z d.r.f (bits .xor .i64 q v))).r.f)∧w'.cell? ⟨p,5,none⟩=some (iv (d.aF (Pl.aS x.z d.r.f (bits .xor .i64 q v))).r.m)∧w'.cell? ⟨p,6,none⟩=some (.bool (d.aF (Pl.aS x.z d.r.f (bits .xor .i64 q v))).r.s)∧w'.cell? ⟨p,7,none⟩=some (.bool (d.aF (Pl.aS x.z d.r.f (bits .xor .i64 q v))).r.t)∧w'.cell? ⟨w.heap.size,1,none⟩=some (iv x.z)∧w'.cell? ⟨w.heap.size,2,none⟩=some (iv x.r)) (first|with_reducible exact SYD|with_reducible exact cellsS aH.o jh.o|exact cellsS (aH.o.laid (Pl.jy (d.aF (Pl.aS x.z d.r.f (bits .xor .i64 q v))).r x.z x.r (bits .xor .i64 q v))) (Blk.kept jh.o (MB.jf _ _ _ _ _ _ _ _) HNP.o)|go_keep) (first|(go_at_call 110;refine (qK _ lo mid bV bY bW bZ (d.aF (Pl.aS x.z d.r.f (bits .xor .i64 q v))).r x.z x.r (bits .xor .i64 q v) HRY.o HMY.o HGF.o HI.o.r0 HI.o.r1 HVV.o).mono ?_;unfold iQ;rintro e9 W_9 ⟨rfl,hr9,hk9⟩;have jX:=hide (HOY.o.regs hr9 hk9);have aH:=hide (HBY.o.regs hk9 HPM);have jh:=hide (Blk.kept HXY.o hk9 HNM.o);have jW:=hide (HSY.o.ai hk9 (Nat.le_refl _) HMH.o);clear hr9 hk9;obtain ⟨u0,u1,u2,u3,u4,u5,u6,u7,_⟩:=aH.o.cells;have f0:=aH.o.frozen 0;have f1:=aH.o.frozen 1;have f2:=aH.o.frozen 2;have f3:=aH.o.frozen 3;have f4:=aH.o.frozen 4;have f5:=aH.o.frozen 5;have f6:=aH.o.frozen 6;have f7:=aH.o.frozen 7))
 go_wp2_with fail
 first|go_end0|refine bodyPost_ret (results_none rfl _ _ _) rfl ?_
 exact ⟨rfl,aW,by rw [E.o,E2.o];exact MAt.laid aH.o jX.o,fM jW.o HPH.o _ _ _ _ _ _ _ _⟩
theorem Oo (w:World) (lo mid hi p g2:Nat) (c:Pl.Mc) (x:Pl.In) (h:MAt w lo mid hi p g2 c) (G:Pl.GM c) (B:Pl.InB x) (h1:x.m=1→x.z=2) (hf:(c.read x.z x.m x.k x.e).fine=true) (ho:x.op=1) :
  Calls prog 116 #[.pointer (some ⟨p,0,none⟩),.agg (inX x)] w fun e w'=>e=.returned (.tuple #[])∧∃g3,MAt w' lo mid hi p g3 (c.two x)∧Since w lo hi g2 w' g3:=by
 have HG:=hide G
 have HI:=hide B
 have HV:=hide (Pl.dC G B.z B.k0 B.k1 B.e0 B.e1 h1 B.n7)
 have HG1:=hide (G.read (m:=x.m) B.z B.k0 B.k1 B.e0 B.e1)
 have HOP:=hide ho
 clear ho
 have hl:=h.lo
 obtain ⟨X,hX,KA,HX,hbw,HHB,HGB,HPH,HPB,HMH,HS,HM⟩:=h.dS x
 obtain ⟨b0,b1,b2,b3,b4,b5,b6⟩:=aG HX.o
 rw [HOP.o] at b0
 clear h
 obtain ⟨gd,cd,ga,ca,g1,c1,c2,HB,HO⟩:=HM.o.op
 clear G B h1
 have HQ:Hid (el (c.read x.z x.m x.k x.e).r.xs x.r.toNat%Pl.top x.z=(c.read x.z x.m x.k x.e).low x.z x.r):=hide rfl
 have HQ0:=Pl.fP HG1.o HI.o.z HI.o.r0 HI.o.r1
 obtain ⟨d,hd⟩:∃d,c.read x.z x.m x.k x.e=d:=⟨_,rfl⟩
 obtain ⟨v,hv⟩:∃v,c.bf x.z x.m x.k x.e=v:=⟨_,rfl⟩
 have E:Hid (c.two x=d.two' x (d.low x.z x.r) v):=hide (by unfold Pl.Mc.two;rw [hf,hd,hv];rfl)
 have HRD:=fun w9 h9=>jM w9 lo mid hi p g2 c x.z x.m x.k x.e h9 HG.o HI.o.z HI.o.k0 HI.o.k1 HI.o.e0 HI.o.e1 HI.o.m0 HI.o.m1
 rw [hd] at hf HG1 HQ HQ0
 rw [hv] at HV
 simp only [hd,hv] at HRD
 clear hd hv
 obtain ⟨q,hq⟩:∃q,d.low x.z x.r=q:=⟨_,rfl⟩
 rw [hq] at E HQ HQ0
 clear hq
 have HF:=hide (Pl.bI HG1.o)
 have HVQ:=hide HQ0
 have E2:Hid (d.two' x q v=(d.aF (Pl.aS x.z d.r.f (v))).put x.z x.r (v)):=hide (by unfold Pl.Mc.two';rw [HOP.o];rfl)
 have HVV:Hid (Pl.okv x.z (v)=true):=hide (HV.o)
 have HGF:=hide (HG1.o.aF (v:=Pl.aS x.z d.r.f (v)) (Pl.eG x.z d.r.f (v) HVV.o HF.o).1 (Pl.eG x.z d.r.f (v) HVV.o HF.o).2).g
 go_enter func116,ntmps116
 go_wp2_with (first|(go_at_call 103;refine (HRD _ HM.o).mono ?_;rintro e9 W_1 ⟨rfl,aW,hm9,hb9⟩;obtain ⟨bu,di,bK⟩:=hb9.nx HX HHB HGB HS;clear hb9;have aY:=hide hm9;obtain ⟨bV,bY,bW,bZ,eX,fA,eY,aZ,bG⟩:=hm9.op;obtain ⟨lV,lD,oI,kF,oH,oG,oD,oC⟩:=aZ.o.c8;clear b0 b1 b2 b3 b4 b5 b6;obtain ⟨b0,b1,b2,b3,b4,b5,b6⟩:=aG bu.o;rw [HOP.o] at b0)|(go_at_call 68;refine st (bT _ lo mid hi p aW _ aY.o) ?_;rw [hf]))
 have HD:=hide (bG.o.any (ae (Kept.refl 0 0 W_1))).d
 have S1D:=cellsS (aZ.o.any (ae (Kept.refl 0 0 W_1))) (bu.o.af (ae (Kept.refl 0 0 W_1)))
 go_region_held3 (fun w'=>w'.cell? ⟨p,0,none⟩=some (.slice (some ⟨bV,0,none⟩) 4 bY)∧w'.cell? ⟨p,1,none⟩=some (.slice (some ⟨bW,0,none⟩) 4 bZ)∧w'.cell? ⟨p,2,none⟩=some (iv d.r.o)∧w'.cell? ⟨p,3,none⟩=some (iv d.r.p)∧w'.cell? ⟨p,4,none⟩=some (iv d.r.f)∧w'.cell? ⟨p,5,none⟩=some (iv d.r.m)∧w'.cell? ⟨p,6,none⟩=some (.bool d.r.s)∧w'.cell? ⟨p,7,none⟩=some (.bool d.r.t)∧w'.cell? ⟨w.heap.size,1,none⟩=some (iv x.z)∧w'.cell? ⟨w.heap.size,2,none⟩=some (iv x.r)) (first|with_reducible exact S1D|with_reducible exact cellsS aP.o dU.o|go_keep) (first|(go_at_call 105;refine (wM _ bV bY bW bZ d.r x.z x.r HD.o HG1.o.g HI.o.z HI.o.r0 HI.o.r1).mono ?_;rw [HQ.o];rintro e9 W_2 ⟨rfl,hk9⟩;have K2:=hide ((ae (Kept.refl 0 0 W_1)).trans hk9);clear hk9;have iy:=hide (aY.o.any K2.o);have aP:=hide (aZ.o.any K2.o);have iE:=hide (bG.o.any K2.o);have dU:=hide (bu.o.af K2.o);have iq:=hide (bK.o.any K2.o);obtain ⟨xK,xJ,xI,uV,sN,xH,xG,xE,sK,sJ,mP,mO,mM,mJ,mG,mF⟩:=aP.o.cells;clear sK sJ mP mO mM mJ mG mF;have yH:=aP.o.frozen 0;have yG:=aP.o.frozen 1;have yF:=aP.o.frozen 2;have vW:=aP.o.frozen 3;have tY:=aP.o.frozen 4;have yE:=aP.o.frozen 5;have yD:=aP.o.frozen 6;have yC:=aP.o.frozen 7;clear b0 b1 b2 b3 b4 b5 b6;obtain ⟨b0,b1,b2,b3,b4,b5,b6⟩:=aG dU.o;rw [HOP.o] at b0;clear lV lD oI kF oH oG oD oC))
 go_wp2_with ((go_at_call 107;refine st (gQ _ HVV.o HF.o) ?_))
 have HBY:=hide ((aP.o.cF (Pl.aS x.z d.r.f (v))).any (ae (Kept.refl 0 0 (W_2.setCell ⟨p,4,none⟩ (iv (Pl.aS x.z d.r.f (v)))))))
 have HOY:=hide ((iE.o.own (ak _ p 4 (iv (Pl.aS x.z d.r.f (v))))).any (ae (Kept.refl 0 0 (W_2.setCell ⟨p,4,none⟩ (iv (Pl.aS x.z d.r.f (v)))))))
 have HSY:=hide ((iq.o.set p 4 (iv (Pl.aS x.z d.r.f (v))) HPH.o).drew)
 have HXY:=hide ((dU.o.other p 4 (iv (Pl.aS x.z d.r.f (v))) (by have:=HPB.o;omega)).af (ae (Kept.refl 0 0 (W_2.setCell ⟨p,4,none⟩ (iv (Pl.aS x.z d.r.f (v)))))))
 have HRY:=hide (MO.reg (r:=(d.aF (Pl.aS x.z d.r.f (v))).r) HOY.o)
 have HMY:Hid (mid≤(W_2.setCell ⟨p,4,none⟩ (iv (Pl.aS x.z d.r.f (v)))).drew.heap.size):=hide (Nat.le_trans HMH.o HOY.o.hh)
 have HPM:=HOY.o.p0
 have HNM:Hid (¬(lo≤w.heap.size∧w.heap.size<mid)):=hide (by have:=HHB.o;have:=HMH.o;omega)
 have HNP:Hid (¬(p≤w.heap.size∧w.heap.size<p+1)):=hide (by have:=HPB.o;omega)
 have SYD:=cellsS HBY.o HXY.o
 go_region_held3 (fun w'=>w'.cell? ⟨p,0,none⟩=some (.slice (some ⟨bV,0,none⟩) 4 bY)∧w'.cell? ⟨p,1,none⟩=some (.slice (some ⟨bW,0,none⟩) 4 bZ)∧w'.cell? ⟨p,2,none⟩=some (iv (d.aF (Pl.aS x.z d.r.f (v))).r.o)∧w'.cell? ⟨p,3,none⟩=some (iv (d.aF (Pl.aS x.z d.r.f (v))).r.p)∧w'.cell? ⟨p,4,none⟩=some (iv (d.aF (Pl.aS x.z d.r.f (v))).r.f)∧w'.cell? ⟨p,5,none⟩=some (iv (d.aF (Pl.aS x.z d.r.f (v))).r.m)∧w'.cell? ⟨p,6,none⟩=some (.bool (d.aF (Pl.aS x.z d.r.f (v))).r.s)∧w'.cell? ⟨p,7,none⟩=some (.bool (d.aF (Pl.aS x.z d.r.f (v))).r.t)∧w'.cell? ⟨w.heap.size,1,none⟩=some (iv x.z)∧w'.cell? ⟨w.heap.size,2,none⟩=some (iv x.r)) (first|with_reducible exact SYD|with_reducible exact cellsS aH.o jh.o|exact cellsS (aH.o.laid (Pl.jy (d.aF (Pl.aS x.z d.r.f (v))).r x.z x.r (v))) (Blk.kept jh.o (MB.jf _ _ _ _ _ _ _ _) HNP.o)|go_keep) (first|(go_at_call 110;refine (qK _ lo mid bV bY bW bZ (d.aF (Pl.aS x.z d.r.f (v))).r x.z x.r (v) HRY.o HMY.o HGF.o HI.o.r0 HI.o.r1 HVV.o).mono ?_;unfold iQ;rintro e9 W_9 ⟨rfl,hr9,hk9⟩;have jX:=hide (HOY.o.regs hr9 hk9);have aH:=hide (HBY.o.regs hk9 HPM);have jh:=hide (Blk.kept HXY.o hk9 HNM.o);have jW:=hide (HSY.o.ai hk9 (Nat.le_refl _) HMH.o);clear hr9 hk9;obtain ⟨u0,u1,u2,u3,u4,u5,u6,u7,_⟩:=aH.o.cells;have f0:=aH.o.frozen 0;have f1:=aH.o.frozen 1;have f2:=aH.o.frozen 2;have f3:=aH.o.frozen 3;have f4:=aH.o.frozen 4;have f5:=aH.o.frozen 5;have f6:=aH.o.frozen 6;have f7:=aH.o.frozen 7))
 go_wp2_with fail
 first|go_end0|refine bodyPost_ret (results_none rfl _ _ _) rfl ?_
 exact ⟨rfl,aW,by rw [E.o,E2.o];exact MAt.laid aH.o jX.o,fM jW.o HPH.o _ _ _ _ _ _ _ _⟩
theorem Bv (w:World) (lo mid hi p g2:Nat) (c:Pl.Mc) (x:Pl.In) (h:MAt w lo mid hi p g2 c) (G:Pl.GM c) (B:Pl.InB x) (h1:x.m=1→x.z=2) (ho:x.op=1∨x.op=3∨x.op=4∨x.op=5∨x.op=6∨x.op=7∨x.op=8) :
  Calls prog 116 #[.pointer (some ⟨p,0,none⟩),.agg (inX x)] w fun e w'=>e=.returned (.tuple #[])∧∃g3,MAt w' lo mid hi p g3 (c.two x)∧Since w lo hi g2 w' g3:=by
 cases hf:(c.read x.z x.m x.k x.e).fine
 ·exact Ot w lo mid hi p g2 c x h G B h1 hf
 ·rcases ho with ho|ho|ho|ho|ho|ho|ho
  ·exact Oo w lo mid hi p g2 c x h G B h1 hf ho
  ·exact Jj w lo mid hi p g2 c x h G B h1 hf ho
  ·exact Jg w lo mid hi p g2 c x h G B h1 hf ho
  ·exact Ji w lo mid hi p g2 c x h G B h1 hf ho
  ·exact Oq w lo mid hi p g2 c x h G B h1 hf ho
  ·exact Jf w lo mid hi p g2 c x h G B h1 hf ho
  ·exact Jh w lo mid hi p g2 c x h G B h1 hf ho
theorem Jn (w:World) (lo mid hi p g2:Nat) (c:Pl.Mc) (x:Pl.In) (h:MAt w lo mid hi p g2 c) (G:Pl.GM c) (B:Pl.InB x) (hf:(c.read 2 x.m x.k x.e).fine=false) :
  Calls prog 113 #[.pointer (some ⟨p,0,none⟩),.agg (inX x)] w fun e w'=>e=.returned (.tuple #[])∧∃g3,MAt w' lo mid hi p g3 (c.product x)∧Since w lo hi g2 w' g3:=by
 have HG:=hide G
 have HI:=hide B
 have HE2:Pl.okv 2 x.e=true:=by have:=B.e0;have:=B.e1;simp [Pl.okv,Pl.top];omega
 have HV:=hide (Pl.dC (z:=2) (m:=x.m) G (.inr rfl) B.k0 B.k1 B.e0 B.e1 (fun _=>rfl) (fun _=>HE2))
 clear HE2
 have HG1:=hide (G.read (z:=2) (m:=x.m) (.inr rfl) B.k0 B.k1 B.e0 B.e1)
 have hl:=h.lo
 obtain ⟨X,hX,KA,HX,hbw,HHB,HGB,HPH,HPB,HMH,HS,HM⟩:=h.dS x
 obtain ⟨b0,b1,b2,b3,b4,b5,b6⟩:=aG HX.o
 clear h
 obtain ⟨gd,cd,ga,ca,g1,c1,c2,HB,HO⟩:=HM.o.op
 clear G B
 have E:Hid (c.product x=c.read 2 x.m x.k x.e):=hide (by unfold Pl.Mc.product;rw [hf];rfl)
 go_enter func113,ntmps113
 go_wp2_with (first|(go_at_call 103;refine (jM _ lo mid hi p g2 c 2 x.m x.k x.e HM.o HG.o (.inr rfl) HI.o.k0 HI.o.k1 HI.o.e0 HI.o.e1 HI.o.m0 HI.o.m1).mono ?_;rintro e9 W_1 ⟨rfl,aW,hm9,hb9⟩;obtain ⟨bu,di,bK⟩:=hb9.nx HX HHB HGB HS;clear hb9;have aY:=hide hm9;obtain ⟨bV,bY,bW,bZ,eX,fA,eY,aZ,bG⟩:=hm9.op;clear b0 b1 b2 b3 b4 b5 b6;obtain ⟨b0,b1,b2,b3,b4,b5,b6⟩:=aG bu.o)|(go_at_call 68;refine st (bT _ lo mid hi p aW _ aY.o) ?_;rw [hf]))
 first|go_end0|refine bodyPost_ret (results_none rfl _ _ _) rfl ?_
 exact ⟨rfl,aW,by rw [E.o];exact aY.o,bK.o⟩
theorem Fh (w:World) (lo mid hi p g2:Nat) (c:Pl.Mc) (x:Pl.In) (h:MAt w lo mid hi p g2 c) (G:Pl.GM c) (B:Pl.InB x) (hf:(c.read 2 x.m x.k x.e).fine=true) (ho:x.op=16) :
  Calls prog 113 #[.pointer (some ⟨p,0,none⟩),.agg (inX x)] w fun e w'=>e=.returned (.tuple #[])∧∃g3,MAt w' lo mid hi p g3 (c.product x)∧Since w lo hi g2 w' g3:=by
 have HG:=hide G
 have HI:=hide B
 have HE2:Pl.okv 2 x.e=true:=by have:=B.e0;have:=B.e1;simp [Pl.okv,Pl.top];omega
 have HV:=hide (Pl.dC (z:=2) (m:=x.m) G (.inr rfl) B.k0 B.k1 B.e0 B.e1 (fun _=>rfl) (fun _=>HE2))
 clear HE2
 have HG1:=hide (G.read (z:=2) (m:=x.m) (.inr rfl) B.k0 B.k1 B.e0 B.e1)
 have HOP:=hide ho
 clear ho
 have hl:=h.lo
 obtain ⟨X,hX,KA,HX,hbw,HHB,HGB,HPH,HPB,HMH,HS,HM⟩:=h.dS x
 obtain ⟨b0,b1,b2,b3,b4,b5,b6⟩:=aG HX.o
 rw [HOP.o] at b0
 clear h
 obtain ⟨gd,cd,ga,ca,g1,c1,c2,HB,HO⟩:=HM.o.op
 clear G B
 obtain ⟨d,hd⟩:∃d,c.read 2 x.m x.k x.e=d:=⟨_,rfl⟩
 obtain ⟨v,hv⟩:∃v,c.bf 2 x.m x.k x.e=v:=⟨_,rfl⟩
 have E:Hid (c.product x=d.jr x v):=hide (by unfold Pl.Mc.product;rw [hf,hd,hv];rfl)
 have HRD:=fun w9 h9=>jM w9 lo mid hi p g2 c 2 x.m x.k x.e h9 HG.o (.inr rfl) HI.o.k0 HI.o.k1 HI.o.e0 HI.o.e1 HI.o.m0 HI.o.m1
 rw [hd] at hf HG1
 rw [hv] at HV
 simp only [hd,hv] at HRD
 clear hd hv
 have r0:=HI.o.r0
 have r1:=HI.o.r1
 have r4:x.r<4:=by omega
 have HR4:Hid (x.r.toNat<4):=hide (by omega)
 obtain ⟨D,hD⟩:∃D,el d.r.xs x.r.toNat=D:=⟨_,rfl⟩
 have hDb:=HG1.o.g.dw x.r.toNat HR4.o
 rw [hD] at hDb
 obtain ⟨hD0,hD1⟩:=hDb
 have HDD:=hide hD
 clear hD
 have hvb:=Pl.aQ HV.o
 have hv0:0≤v:=hvb.2.1
 have hv1:v≤65535:=by have:=hvb.2.2;simp [Pl.top] at this;omega
 clear hvb
 obtain ⟨Q,hQ⟩:∃Q,D*v=Q:=⟨_,rfl⟩
 have hQ0:0≤D*v:=Int.mul_nonneg hD0 hv0
 have hQ1:D*v≤65535*65535:=Int.mul_le_mul hD1 hv1 hv0 (by decide)
 have E2:Hid (d.jr x v=d.IY x Q):=hide (by unfold Pl.Mc.jr;rw [HOP.o,HDD.o,hQ];rfl)
 have HVQ:Hid (Pl.okv 2 (Q%65536)=true):=hide (by simp [Pl.okv,Pl.top];omega)
 have hm:=mg Q
 have hg9:(decide (65535<Q))=decide (65535<Q):=rfl
 go_enter func113,ntmps113
 go_wp2_with (first|(go_at_call 103;refine (HRD _ HM.o).mono ?_;rintro e9 W_1 ⟨rfl,aW,hm9,hb9⟩;obtain ⟨bu,di,bK⟩:=hb9.nx HX HHB HGB HS;clear hb9;have aY:=hide hm9;obtain ⟨bV,bY,bW,bZ,eX,fA,eY,aZ,bG⟩:=hm9.op;have lV:=aZ.o.k0;clear b0 b1 b2 b3 b4 b5 b6;obtain ⟨b0,b1,b2,b3,b4,b5,b6⟩:=aG bu.o;rw [HOP.o] at b0;obtain ⟨hc,_⟩:=jL bG.o.d x.r.toNat (by rw [HG1.o.g.d4];exact HR4.o);rw [HDD.o] at hc)|(go_at_call 68;refine st (bT _ lo mid hi p aW _ aY.o) ?_;rw [hf]))
 go_region
 have HMD:=hide (aY.o.any (ae (Kept.refl 0 0 W_1)))
 have HX_D:=hide (bu.o.af (ae (Kept.refl 0 0 W_1)))
 have HGB_D:=di
 have HS_D:=hide bK.o.drew
 go_wp2_with (go_at_call 152;refine (DK _ lo mid hi p aW d 2 x.r (Q%65536) HMD.o HG1.o HI.o.r0 HI.o.r1 HVQ.o).mono ?_;rintro e9 W_2 ⟨rfl,lw,hm9,hb9⟩;obtain ⟨dU,qp,iq⟩:=hb9.nx HX_D HHB HGB_D HS_D;clear hb9;have iy:=hide hm9;obtain ⟨wO,wR,wP,wS,yx,yR,yQ,aP,iE⟩:=hm9.op;have sN:=aP.o.k4;have tY:=aP.o.frozen 4;clear b0 b1 b2 b3 b4 b5 b6;obtain ⟨b0,b1,b2,b3,b4,b5,b6⟩:=aG dU.o)
 go_region_with (go_at_call 146;refine st (dF _ _ _) ?_)
 all_goals
  go_wp2_with fail
  first|go_end0|refine bodyPost_ret (results_none rfl _ _ _) rfl ?_
  exact ⟨rfl,lw,by rw [E.o,E2.o];exact (iy.o.cF _).drew,(iq.o.set p 4 _ HPH.o).drew⟩
theorem BC (w:World) (lo mid hi p g2:Nat) (c:Pl.Mc) (x:Pl.In) (h:MAt w lo mid hi p g2 c) (G:Pl.GM c) (B:Pl.InB x) (hf:(c.read 2 x.m x.k x.e).fine=true) (ho:x.op=17) (hq:(c.bf 2 x.m x.k x.e==0)=true) :
  Calls prog 113 #[.pointer (some ⟨p,0,none⟩),.agg (inX x)] w fun e w'=>e=.returned (.tuple #[])∧∃g3,MAt w' lo mid hi p g3 (c.product x)∧Since w lo hi g2 w' g3:=by
 have HG:=hide G
 have HI:=hide B
 have HE2:Pl.okv 2 x.e=true:=by have:=B.e0;have:=B.e1;simp [Pl.okv,Pl.top];omega
 have HV:=hide (Pl.dC (z:=2) (m:=x.m) G (.inr rfl) B.k0 B.k1 B.e0 B.e1 (fun _=>rfl) (fun _=>HE2))
 clear HE2
 have HG1:=hide (G.read (z:=2) (m:=x.m) (.inr rfl) B.k0 B.k1 B.e0 B.e1)
 have HOP:=hide ho
 clear ho
 have hl:=h.lo
 obtain ⟨X,hX,KA,HX,hbw,HHB,HGB,HPH,HPB,HMH,HS,HM⟩:=h.dS x
 obtain ⟨b0,b1,b2,b3,b4,b5,b6⟩:=aG HX.o
 rw [HOP.o] at b0
 clear h
 obtain ⟨gd,cd,ga,ca,g1,c1,c2,HB,HO⟩:=HM.o.op
 clear G B
 obtain ⟨d,hd⟩:∃d,c.read 2 x.m x.k x.e=d:=⟨_,rfl⟩
 obtain ⟨v,hv⟩:∃v,c.bf 2 x.m x.k x.e=v:=⟨_,rfl⟩
 have E:Hid (c.product x=d.jr x v):=hide (by unfold Pl.Mc.product;rw [hf,hd,hv];rfl)
 have HRD:=fun w9 h9=>jM w9 lo mid hi p g2 c 2 x.m x.k x.e h9 HG.o (.inr rfl) HI.o.k0 HI.o.k1 HI.o.e0 HI.o.e1 HI.o.m0 HI.o.m1
 rw [hd] at hf HG1
 rw [hv] at HV hq
 simp only [hd,hv] at HRD
 clear hd hv
 have r0:=HI.o.r0
 have r1:=HI.o.r1
 have r4:x.r<4:=by omega
 have HR4:Hid (x.r.toNat<4):=hide (by omega)
 obtain ⟨D,hD⟩:∃D,el d.r.xs x.r.toNat=D:=⟨_,rfl⟩
 have hDb:=HG1.o.g.dw x.r.toNat HR4.o
 rw [hD] at hDb
 obtain ⟨hD0,hD1⟩:=hDb
 have HDD:=hide hD
 clear hD
 have hvb:=Pl.aQ HV.o
 have hv0:0≤v:=hvb.2.1
 have hv1:v≤65535:=by have:=hvb.2.2;simp [Pl.top] at this;omega
 clear hvb
 have E2:Hid (d.jr x v=d.raise 5):=hide (by unfold Pl.Mc.jr;rw [HOP.o,hq];rfl)
 go_enter func113,ntmps113
 go_wp2_with (first|(go_at_call 103;refine (HRD _ HM.o).mono ?_;rintro e9 W_1 ⟨rfl,aW,hm9,hb9⟩;obtain ⟨bu,di,bK⟩:=hb9.nx HX HHB HGB HS;clear hb9;have aY:=hide hm9;obtain ⟨bV,bY,bW,bZ,eX,fA,eY,aZ,bG⟩:=hm9.op;have lV:=aZ.o.k0;clear b0 b1 b2 b3 b4 b5 b6;obtain ⟨b0,b1,b2,b3,b4,b5,b6⟩:=aG bu.o;rw [HOP.o] at b0;obtain ⟨hc,_⟩:=jL bG.o.d x.r.toNat (by rw [HG1.o.g.d4];exact HR4.o);rw [HDD.o] at hc)|(go_at_call 68;refine st (bT _ lo mid hi p aW _ aY.o) ?_;rw [hf]))
 go_region
 have HMD:=hide (aY.o.any (ae (Kept.refl 0 0 W_1)))
 have HX_D:=hide (bu.o.af (ae (Kept.refl 0 0 W_1)))
 have HGB_D:=di
 have HS_D:=hide bK.o.drew
 go_wp2_with (go_at_call 150;refine (Jm _ lo mid hi p aW d 5 HMD.o).mono ?_;rintro e9 W_2 ⟨rfl,lw,hm9,hb9⟩;obtain ⟨dU,qp,iq⟩:=hb9.nx HX_D HHB HGB_D HS_D;clear hb9;have iy:=hide hm9;obtain ⟨wO,wR,wP,wS,yx,yR,yQ,aP,iE⟩:=hm9.op;clear b0 b1 b2 b3 b4 b5 b6;obtain ⟨b0,b1,b2,b3,b4,b5,b6⟩:=aG dU.o;rw [HOP.o] at b0)
 first|go_end0|refine bodyPost_ret (results_none rfl _ _ _) rfl ?_
 exact ⟨rfl,lw,by rw [E.o,E2.o];exact iy.o,iq.o⟩
theorem Fj (w:World) (lo mid hi p g2:Nat) (c:Pl.Mc) (x:Pl.In) (h:MAt w lo mid hi p g2 c) (G:Pl.GM c) (B:Pl.InB x) (hf:(c.read 2 x.m x.k x.e).fine=true) (ho:x.op=17) (hq:(c.bf 2 x.m x.k x.e==0)=false) :
  Calls prog 113 #[.pointer (some ⟨p,0,none⟩),.agg (inX x)] w fun e w'=>e=.returned (.tuple #[])∧∃g3,MAt w' lo mid hi p g3 (c.product x)∧Since w lo hi g2 w' g3:=by
 have HG:=hide G
 have HI:=hide B
 have HE2:Pl.okv 2 x.e=true:=by have:=B.e0;have:=B.e1;simp [Pl.okv,Pl.top];omega
 have HV:=hide (Pl.dC (z:=2) (m:=x.m) G (.inr rfl) B.k0 B.k1 B.e0 B.e1 (fun _=>rfl) (fun _=>HE2))
 clear HE2
 have HG1:=hide (G.read (z:=2) (m:=x.m) (.inr rfl) B.k0 B.k1 B.e0 B.e1)
 have HOP:=hide ho
 clear ho
 have hl:=h.lo
 obtain ⟨X,hX,KA,HX,hbw,HHB,HGB,HPH,HPB,HMH,HS,HM⟩:=h.dS x
 obtain ⟨b0,b1,b2,b3,b4,b5,b6⟩:=aG HX.o
 rw [HOP.o] at b0
 clear h
 obtain ⟨gd,cd,ga,ca,g1,c1,c2,HB,HO⟩:=HM.o.op
 clear G B
 obtain ⟨d,hd⟩:∃d,c.read 2 x.m x.k x.e=d:=⟨_,rfl⟩
 obtain ⟨v,hv⟩:∃v,c.bf 2 x.m x.k x.e=v:=⟨_,rfl⟩
 have E:Hid (c.product x=d.jr x v):=hide (by unfold Pl.Mc.product;rw [hf,hd,hv];rfl)
 have HRD:=fun w9 h9=>jM w9 lo mid hi p g2 c 2 x.m x.k x.e h9 HG.o (.inr rfl) HI.o.k0 HI.o.k1 HI.o.e0 HI.o.e1 HI.o.m0 HI.o.m1
 rw [hd] at hf HG1
 rw [hv] at HV hq
 simp only [hd,hv] at HRD
 clear hd hv
 have r0:=HI.o.r0
 have r1:=HI.o.r1
 have r4:x.r<4:=by omega
 have HR4:Hid (x.r.toNat<4):=hide (by omega)
 obtain ⟨D,hD⟩:∃D,el d.r.xs x.r.toNat=D:=⟨_,rfl⟩
 have hDb:=HG1.o.g.dw x.r.toNat HR4.o
 rw [hD] at hDb
 obtain ⟨hD0,hD1⟩:=hDb
 have HDD:=hide hD
 clear hD
 have hvb:=Pl.aQ HV.o
 have hv0:0≤v:=hvb.2.1
 have hv1:v≤65535:=by have:=hvb.2.2;simp [Pl.top] at this;omega
 clear hvb
 have E2:Hid (d.jr x v=d.data 2 x.r (D/v)):=hide (by unfold Pl.Mc.jr;rw [HOP.o,hq,HDD.o];rfl)
 have hvp:0<v:=by simp at hq;omega
 have hdiv:D.tdiv v=D/v:=Int.tdiv_eq_ediv_of_nonneg hD0
 have hd0:0≤D/v:=Int.ediv_nonneg hD0 hv0
 have hd1:D/v≤65535:=Int.le_trans (Int.ediv_le_self v hD0) hD1
 have HVQ:Hid (Pl.okv 2 (D/v)=true):=hide (by generalize D/v=N at hd0 hd1;simp [Pl.okv,Pl.top];omega)
 go_enter func113,ntmps113
 go_wp2_with (first|(go_at_call 103;refine (HRD _ HM.o).mono ?_;rintro e9 W_1 ⟨rfl,aW,hm9,hb9⟩;obtain ⟨bu,di,bK⟩:=hb9.nx HX HHB HGB HS;clear hb9;have aY:=hide hm9;obtain ⟨bV,bY,bW,bZ,eX,fA,eY,aZ,bG⟩:=hm9.op;have lV:=aZ.o.k0;clear b0 b1 b2 b3 b4 b5 b6;obtain ⟨b0,b1,b2,b3,b4,b5,b6⟩:=aG bu.o;rw [HOP.o] at b0;obtain ⟨hc,_⟩:=jL bG.o.d x.r.toNat (by rw [HG1.o.g.d4];exact HR4.o);rw [HDD.o] at hc)|(go_at_call 68;refine st (bT _ lo mid hi p aW _ aY.o) ?_;rw [hf]))
 go_region
 have HMD:=hide ((aY.o.any (ae (Kept.refl 0 0 W_1))).any (ae (Kept.refl 0 0 W_1.drew)))
 have HX_D:=hide ((bu.o.af (ae (Kept.refl 0 0 W_1))).af (ae (Kept.refl 0 0 W_1.drew)))
 have HGB_D:=di
 have HS_D:=hide bK.o.drew.drew
 go_wp2_with fail
 go_region_with (go_at_call 152;refine (DK _ lo mid hi p aW d 2 x.r (D/v) HMD.o HG1.o HI.o.r0 HI.o.r1 HVQ.o).mono ?_;rintro e9 W_2 ⟨rfl,lw,hm9,hb9⟩;obtain ⟨dU,qp,iq⟩:=hb9.nx HX_D HHB HGB_D HS_D;clear hb9;have iy:=hide hm9;obtain ⟨wO,wR,wP,wS,yx,yR,yQ,aP,iE⟩:=hm9.op;clear b0 b1 b2 b3 b4 b5 b6;obtain ⟨b0,b1,b2,b3,b4,b5,b6⟩:=aG dU.o;rw [HOP.o] at b0)
 all_goals
  go_wp2_with fail
  first|go_end0|refine bodyPost_ret (results_none rfl _ _ _) rfl ?_
  exact ⟨rfl,lw,by rw [E.o,E2.o];exact iy.o,iq.o⟩
theorem zH (w:World) (lo mid hi p g2:Nat) (c:Pl.Mc) (x:Pl.In) (h:MAt w lo mid hi p g2 c) (G:Pl.GM c) (B:Pl.InB x) (ho:x.op=16∨x.op=17) :
  Calls prog 113 #[.pointer (some ⟨p,0,none⟩),.agg (inX x)] w fun e w'=>e=.returned (.tuple #[])∧∃g3,MAt w' lo mid hi p g3 (c.product x)∧Since w lo hi g2 w' g3:=by
 cases hf:(c.read 2 x.m x.k x.e).fine
 ·exact Jn w lo mid hi p g2 c x h G B hf
 ·rcases ho with ho|ho
  ·exact Fh w lo mid hi p g2 c x h G B hf ho
  ·cases hq:(c.bf 2 x.m x.k x.e==0)
   ·exact Fj w lo mid hi p g2 c x h G B hf ho hq
   ·exact BC w lo mid hi p g2 c x h G B hf ho hq
end Go.Proofs.YtkkmnnhaailkcaaGreatDoor
