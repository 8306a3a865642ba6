/- Part 13 of what the last text leans on. -/
import Derived.Test.YtkkmnnhaailkcaaGreatDoorJA12
set_option maxRecDepth 100000
set_option maxHeartbeats 16000000
namespace Go.Proofs.YtkkmnnhaailkcaaGreatDoor
open Go.RowKit Go.Proofs.Tryz
set_option linter.unusedVariables false
theorem IW (w:World) (lo mid hi p g2:Nat) (c:Pl.Mc) (x:Pl.In) (h:MAt w lo mid hi p g2 c) (G:Pl.GM c) (B:Pl.InB x) (h1:x.m=1→x.z=2) (hf:(c.read x.z x.m x.k x.e).fine=true) (ho:x.op=5) :
  Calls prog 116 #[.pointer (some ⟨p,0,none⟩),.agg (inX x)] w fun e w'=>e=.returned (.tuple #[])∧∃g3,MAt w' lo mid hi p g3 (c.two x)∧Since w lo hi g2 w' g3:=by
 have HG:=hide G
 have HI:=hide B
 have HV:=hide (Pl.di G B.z B.k0 B.k1 B.e0 B.e1 h1 B.n7)
 have HG1:=hide (G.read (m:=x.m) B.z B.k0 B.k1 B.e0 B.e1)
 have HOP:=hide ho
 clear ho
 have hl:=h.lo
 obtain ⟨X,hX,KA,HX,hbw,HHB,HGB,HPH,HPB,HMH,HS,HM⟩:=h.dL x
 obtain ⟨b0,b1,b2,b3,b4,b5,b6⟩:=aF HX.o
 rw [HOP.o] at b0
 clear h
 obtain ⟨gd,cd,ga,ca,g1,c1,c2,HB,HO⟩:=HM.o.op
 clear G B h1
 have HQ:Hid (el (c.read x.z x.m x.k x.e).r.xs x.r.toNat%Pl.top x.z=(c.read x.z x.m x.k x.e).low x.z x.r):=hide rfl
 have HQ0:=Pl.fJ HG1.o HI.o.z HI.o.r0 HI.o.r1
 obtain ⟨d,hd⟩:∃d,c.read x.z x.m x.k x.e=d:=⟨_,rfl⟩
 obtain ⟨v,hv⟩:∃v,c.aY x.z x.m x.k x.e=v:=⟨_,rfl⟩
 have E:Hid (c.two x=d.two' x (d.low x.z x.r) v):=hide (by unfold Pl.Mc.two;rw [hf,hd,hv];rfl)
 have HRD:=fun w9 h9=>jJ w9 lo mid hi p g2 c x.z x.m x.k x.e h9 HG.o HI.o.z HI.o.k0 HI.o.k1 HI.o.e0 HI.o.e1 HI.o.m0 HI.o.m1
 rw [hd] at hf HG1 HQ HQ0
 rw [hv] at HV
 simp only [hd,hv] at HRD
 clear hd hv
 obtain ⟨q,hq⟩:∃q,d.low x.z x.r=q:=⟨_,rfl⟩
 rw [hq] at E HQ HQ0
 clear hq
 have HF:=hide (Pl.bG HG1.o)
 have HVQ:=hide HQ0
 have E2:Hid (d.two' x q v=(d.aB (Pl.aQ x.z d.r.f (bits .and .i64 q v))).put x.z x.r (bits .and .i64 q v)):=hide (by unfold Pl.Mc.two';rw [HOP.o];rfl)
 have HVV:Hid (Pl.okv x.z (bits .and .i64 q v)=true):=hide ((Pl.mQ HVQ.o HV.o).1)
 have HGF:=hide (HG1.o.aB (v:=Pl.aQ x.z d.r.f (bits .and .i64 q v)) (Pl.dX x.z d.r.f (bits .and .i64 q v) HVV.o HF.o).1 (Pl.dX x.z d.r.f (bits .and .i64 q v) HVV.o HF.o).2).g
 go_enter func116,ntmps116
 go_wp2_with (first|(go_at_call 103;refine (HRD _ HM.o).mono ?_;rintro e9 W_1 ⟨rfl,aT,hm9,hb9⟩;obtain ⟨bg,bY,bI⟩:=hb9.nx HX HHB HGB HS;clear hb9;have aW:=hide hm9;obtain ⟨bQ,bU,bT,bV,eu,eP,eG,aX,bu⟩:=hm9.op;obtain ⟨lS,kW,oC,kC,oz,ou,oh,og⟩:=aX.o.c8;clear b0 b1 b2 b3 b4 b5 b6;obtain ⟨b0,b1,b2,b3,b4,b5,b6⟩:=aF bg.o;rw [HOP.o] at b0)|(go_at_call 68;refine st (bK _ lo mid hi p aT _ aW.o) ?_;rw [hf]))
 have HD:=hide (bu.o.any (ae (Kept.refl 0 0 W_1))).d
 have S1D:=cellsS (aX.o.any (ae (Kept.refl 0 0 W_1))) (bg.o.af (ae (Kept.refl 0 0 W_1)))
 go_region_held3 (fun w'=>w'.cell? ⟨p,0,none⟩=some (.slice (some ⟨bQ,0,none⟩) 4 bU)∧w'.cell? ⟨p,1,none⟩=some (.slice (some ⟨bT,0,none⟩) 4 bV)∧w'.cell? ⟨p,2,none⟩=some (iv d.r.o)∧w'.cell? ⟨p,3,none⟩=some (iv d.r.p)∧w'.cell? ⟨p,4,none⟩=some (iv d.r.f)∧w'.cell? ⟨p,5,none⟩=some (iv d.r.m)∧w'.cell? ⟨p,6,none⟩=some (.bool d.r.s)∧w'.cell? ⟨p,7,none⟩=some (.bool d.r.t)∧w'.cell? ⟨w.heap.size,1,none⟩=some (iv x.z)∧w'.cell? ⟨w.heap.size,2,none⟩=some (iv x.r)) (first|with_reducible exact S1D|with_reducible exact cellsS aN.o dM.o|go_keep) (first|(go_at_call 105;refine (wF _ bQ bU bT bV d.r x.z x.r HD.o HG1.o.g HI.o.z HI.o.r0 HI.o.r1).mono ?_;rw [HQ.o];rintro e9 W_2 ⟨rfl,hk9⟩;have K2:=hide ((ae (Kept.refl 0 0 W_1)).trans hk9);clear hk9;have gZ:=hide (aW.o.any K2.o);have aN:=hide (aX.o.any K2.o);have iq:=hide (bu.o.any K2.o);have dM:=hide (bg.o.af K2.o);have gX:=hide (bI.o.any K2.o);obtain ⟨xy,xx,xw,uM,rZ,xu,xq,xn,rY,rX,mJ,mG,mF,mD,mi,mg⟩:=aN.o.cells;clear rY rX mJ mG mF mD mi mg;have yu:=aN.o.frozen 0;have yt:=aN.o.frozen 1;have yl:=aN.o.frozen 2;have vO:=aN.o.frozen 3;have sZ:=aN.o.frozen 4;have yj:=aN.o.frozen 5;have yh:=aN.o.frozen 6;have yg:=aN.o.frozen 7;clear b0 b1 b2 b3 b4 b5 b6;obtain ⟨b0,b1,b2,b3,b4,b5,b6⟩:=aF dM.o;rw [HOP.o] at b0;clear lS kW oC kC oz ou oh og))
 go_wp2_with ((go_at_call 107;refine st (gG _ HVV.o HF.o) ?_))
 have HBY:=hide ((aN.o.cF (Pl.aQ x.z d.r.f (bits .and .i64 q v))).any (ae (Kept.refl 0 0 (W_2.setCell ⟨p,4,none⟩ (iv (Pl.aQ x.z d.r.f (bits .and .i64 q v)))))))
 have HOY:=hide ((iq.o.own (ak _ p 4 (iv (Pl.aQ x.z d.r.f (bits .and .i64 q v))))).any (ae (Kept.refl 0 0 (W_2.setCell ⟨p,4,none⟩ (iv (Pl.aQ x.z d.r.f (bits .and .i64 q v)))))))
 have HSY:=hide ((gX.o.set p 4 (iv (Pl.aQ x.z d.r.f (bits .and .i64 q v))) HPH.o).drew)
 have HXY:=hide ((dM.o.other p 4 (iv (Pl.aQ x.z d.r.f (bits .and .i64 q v))) (by have:=HPB.o;omega)).af (ae (Kept.refl 0 0 (W_2.setCell ⟨p,4,none⟩ (iv (Pl.aQ x.z d.r.f (bits .and .i64 q v)))))))
 have HRY:=hide (MO.reg (r:=(d.aB (Pl.aQ x.z d.r.f (bits .and .i64 q v))).r) HOY.o)
 have HMY:Hid (mid≤(W_2.setCell ⟨p,4,none⟩ (iv (Pl.aQ x.z d.r.f (bits .and .i64 q v)))).drew.heap.size):=hide (Nat.le_trans HMH.o HOY.o.hh)
 have HPM:=HOY.o.p0
 have HNM:Hid (¬(lo≤w.heap.size∧w.heap.size<mid)):=hide (by have:=HHB.o;have:=HMH.o;omega)
 have HNP:Hid (¬(p≤w.heap.size∧w.heap.size<p+1)):=hide (by have:=HPB.o;omega)
 have SYD:=cellsS HBY.o HXY.o
 go_region_held3 (fun w'=>w'.cell? ⟨p,0,none⟩=some (.slice (some ⟨bQ,0,none⟩) 4 bU)∧w'.cell? ⟨p,1,none⟩=some (.slice (some ⟨bT,0,none⟩) 4 bV)∧w'.cell? ⟨p,2,none⟩=some (iv (d.aB (Pl.aQ x.z d.r.f (bits .and .i64 q v))).r.o)∧w'.cell? ⟨p,3,none⟩=some (iv (d.aB (Pl.aQ x.z d.r.f (bits .and .i64 q v))).r.p)∧w'.cell? ⟨p,4,none⟩=some (iv (d.aB (Pl.aQ x.z d.r.f (bits .and .i64 q v))).r.f)∧w'.cell? ⟨p,5,none⟩=some (iv (d.aB (Pl.aQ x.z d.r.f (bits .and .i64 q v))).r.m)∧w'.cell? ⟨p,6,none⟩=some (.bool (d.aB (Pl.aQ x.z d.r.f (bits .and .i64 q v))).r.s)∧w'.cell? ⟨p,7,none⟩=some (.bool (d.aB (Pl.aQ x.z d.r.f (bits .and .i64 q v))).r.t)∧w'.cell? ⟨w.heap.size,1,none⟩=some (iv x.z)∧w'.cell? ⟨w.heap.size,2,none⟩=some (iv x.r)) (first|with_reducible exact SYD|with_reducible exact cellsS aG.o jd.o|exact cellsS (aG.o.laid (Pl.jr (d.aB (Pl.aQ x.z d.r.f (bits .and .i64 q v))).r x.z x.r (bits .and .i64 q v))) (Blk.kept jd.o (MB.jb _ _ _ _ _ _ _ _) HNP.o)|go_keep) (first|(go_at_call 110;refine (qG _ lo mid bQ bU bT bV (d.aB (Pl.aQ x.z d.r.f (bits .and .i64 q v))).r x.z x.r (bits .and .i64 q v) HRY.o HMY.o HGF.o HI.o.r0 HI.o.r1 HVV.o).mono ?_;unfold iK;rintro e9 W_9 ⟨rfl,hr9,hk9⟩;have jU:=hide (HOY.o.regs hr9 hk9);have aG:=hide (HBY.o.regs hk9 HPM);have jd:=hide (Blk.kept HXY.o hk9 HNM.o);have jT:=hide (HSY.o.ai hk9 (Nat.le_refl _) HMH.o);clear hr9 hk9;obtain ⟨u0,u1,u2,u3,u4,u5,u6,u7,_⟩:=aG.o.cells;have f0:=aG.o.frozen 0;have f1:=aG.o.frozen 1;have f2:=aG.o.frozen 2;have f3:=aG.o.frozen 3;have f4:=aG.o.frozen 4;have f5:=aG.o.frozen 5;have f6:=aG.o.frozen 6;have f7:=aG.o.frozen 7))
 go_wp2_with fail
 first|go_end0|refine bodyPost_ret (results_none rfl _ _ _) rfl ?_
 exact ⟨rfl,aT,by rw [E.o,E2.o];exact MAt.laid aG.o jU.o,fG jT.o HPH.o _ _ _ _ _ _ _ _⟩
theorem N8 (w:World) (lo mid hi p g2:Nat) (c:Pl.Mc) (x:Pl.In) (h:MAt w lo mid hi p g2 c) (G:Pl.GM c) (B:Pl.InB x) (h1:x.m=1→x.z=2) (hf:(c.read x.z x.m x.k x.e).fine=true) (ho:x.op=6) :
  Calls prog 116 #[.pointer (some ⟨p,0,none⟩),.agg (inX x)] w fun e w'=>e=.returned (.tuple #[])∧∃g3,MAt w' lo mid hi p g3 (c.two x)∧Since w lo hi g2 w' g3:=by
 have HG:=hide G
 have HI:=hide B
 have HV:=hide (Pl.di G B.z B.k0 B.k1 B.e0 B.e1 h1 B.n7)
 have HG1:=hide (G.read (m:=x.m) B.z B.k0 B.k1 B.e0 B.e1)
 have HOP:=hide ho
 clear ho
 have hl:=h.lo
 obtain ⟨X,hX,KA,HX,hbw,HHB,HGB,HPH,HPB,HMH,HS,HM⟩:=h.dL x
 obtain ⟨b0,b1,b2,b3,b4,b5,b6⟩:=aF HX.o
 rw [HOP.o] at b0
 clear h
 obtain ⟨gd,cd,ga,ca,g1,c1,c2,HB,HO⟩:=HM.o.op
 clear G B h1
 have HQ:Hid (el (c.read x.z x.m x.k x.e).r.xs x.r.toNat%Pl.top x.z=(c.read x.z x.m x.k x.e).low x.z x.r):=hide rfl
 have HQ0:=Pl.fJ HG1.o HI.o.z HI.o.r0 HI.o.r1
 obtain ⟨d,hd⟩:∃d,c.read x.z x.m x.k x.e=d:=⟨_,rfl⟩
 obtain ⟨v,hv⟩:∃v,c.aY x.z x.m x.k x.e=v:=⟨_,rfl⟩
 have E:Hid (c.two x=d.two' x (d.low x.z x.r) v):=hide (by unfold Pl.Mc.two;rw [hf,hd,hv];rfl)
 have HRD:=fun w9 h9=>jJ w9 lo mid hi p g2 c x.z x.m x.k x.e h9 HG.o HI.o.z HI.o.k0 HI.o.k1 HI.o.e0 HI.o.e1 HI.o.m0 HI.o.m1
 rw [hd] at hf HG1 HQ HQ0
 rw [hv] at HV
 simp only [hd,hv] at HRD
 clear hd hv
 obtain ⟨q,hq⟩:∃q,d.low x.z x.r=q:=⟨_,rfl⟩
 rw [hq] at E HQ HQ0
 clear hq
 have HF:=hide (Pl.bG HG1.o)
 have HVQ:=hide HQ0
 have E2:Hid (d.two' x q v=(d.aB (Pl.aQ x.z d.r.f (bits .or .i64 q v))).put x.z x.r (bits .or .i64 q v)):=hide (by unfold Pl.Mc.two';rw [HOP.o];rfl)
 have HVV:Hid (Pl.okv x.z (bits .or .i64 q v)=true):=hide ((Pl.mQ HVQ.o HV.o).2.1)
 have HGF:=hide (HG1.o.aB (v:=Pl.aQ x.z d.r.f (bits .or .i64 q v)) (Pl.dX x.z d.r.f (bits .or .i64 q v) HVV.o HF.o).1 (Pl.dX x.z d.r.f (bits .or .i64 q v) HVV.o HF.o).2).g
 go_enter func116,ntmps116
 go_wp2_with (first|(go_at_call 103;refine (HRD _ HM.o).mono ?_;rintro e9 W_1 ⟨rfl,aT,hm9,hb9⟩;obtain ⟨bg,bY,bI⟩:=hb9.nx HX HHB HGB HS;clear hb9;have aW:=hide hm9;obtain ⟨bQ,bU,bT,bV,eu,eP,eG,aX,bu⟩:=hm9.op;obtain ⟨lS,kW,oC,kC,oz,ou,oh,og⟩:=aX.o.c8;clear b0 b1 b2 b3 b4 b5 b6;obtain ⟨b0,b1,b2,b3,b4,b5,b6⟩:=aF bg.o;rw [HOP.o] at b0)|(go_at_call 68;refine st (bK _ lo mid hi p aT _ aW.o) ?_;rw [hf]))
 have HD:=hide (bu.o.any (ae (Kept.refl 0 0 W_1))).d
 have S1D:=cellsS (aX.o.any (ae (Kept.refl 0 0 W_1))) (bg.o.af (ae (Kept.refl 0 0 W_1)))
 go_region_held3 (fun w'=>w'.cell? ⟨p,0,none⟩=some (.slice (some ⟨bQ,0,none⟩) 4 bU)∧w'.cell? ⟨p,1,none⟩=some (.slice (some ⟨bT,0,none⟩) 4 bV)∧w'.cell? ⟨p,2,none⟩=some (iv d.r.o)∧w'.cell? ⟨p,3,none⟩=some (iv d.r.p)∧w'.cell? ⟨p,4,none⟩=some (iv d.r.f)∧w'.cell? ⟨p,5,none⟩=some (iv d.r.m)∧w'.cell? ⟨p,6,none⟩=some (.bool d.r.s)∧w'.cell? ⟨p,7,none⟩=some (.bool d.r.t)∧w'.cell? ⟨w.heap.size,1,none⟩=some (iv x.z)∧w'.cell? ⟨w.heap.size,2,none⟩=some (iv x.r)) (first|with_reducible exact S1D|with_reducible exact cellsS aN.o dM.o|go_keep) (first|(go_at_call 105;refine (wF _ bQ bU bT bV d.r x.z x.r HD.o HG1.o.g HI.o.z HI.o.r0 HI.o.r1).mono ?_;rw [HQ.o];rintro e9 W_2 ⟨rfl,hk9⟩;have K2:=hide ((ae (Kept.refl 0 0 W_1)).trans hk9);clear hk9;have gZ:=hide (aW.o.any K2.o);have aN:=hide (aX.o.any K2.o);have iq:=hide (bu.o.any K2.o);have dM:=hide (bg.o.af K2.o);have gX:=hide (bI.o.any K2.o);obtain ⟨xy,xx,xw,uM,rZ,xu,xq,xn,rY,rX,mJ,mG,mF,mD,mi,mg⟩:=aN.o.cells;clear rY rX mJ mG mF mD mi mg;have yu:=aN.o.frozen 0;have yt:=aN.o.frozen 1;have yl:=aN.o.frozen 2;have vO:=aN.o.frozen 3;have sZ:=aN.o.frozen 4;have yj:=aN.o.frozen 5;have yh:=aN.o.frozen 6;have yg:=aN.o.frozen 7;clear b0 b1 b2 b3 b4 b5 b6;obtain ⟨b0,b1,b2,b3,b4,b5,b6⟩:=aF dM.o;rw [HOP.o] at b0;clear lS kW oC kC oz ou oh og))
 go_wp2_with ((go_at_call 107;refine st (gG _ HVV.o HF.o) ?_))
 have HBY:=hide ((aN.o.cF (Pl.aQ x.z d.r.f (bits .or .i64 q v))).any (ae (Kept.refl 0 0 (W_2.setCell ⟨p,4,none⟩ (iv (Pl.aQ x.z d.r.f (bits .or .i64 q v)))))))
 have HOY:=hide ((iq.o.own (ak _ p 4 (iv (Pl.aQ x.z d.r.f (bits .or .i64 q v))))).any (ae (Kept.refl 0 0 (W_2.setCell ⟨p,4,none⟩ (iv (Pl.aQ x.z d.r.f (bits .or .i64 q v)))))))
 have HSY:=hide ((gX.o.set p 4 (iv (Pl.aQ x.z d.r.f (bits .or .i64 q v))) HPH.o).drew)
 have HXY:=hide ((dM.o.other p 4 (iv (Pl.aQ x.z d.r.f (bits .or .i64 q v))) (by have:=HPB.o;omega)).af (ae (Kept.refl 0 0 (W_2.setCell ⟨p,4,none⟩ (iv (Pl.aQ x.z d.r.f (bits .or .i64 q v)))))))
 have HRY:=hide (MO.reg (r:=(d.aB (Pl.aQ x.z d.r.f (bits .or .i64 q v))).r) HOY.o)
 have HMY:Hid (mid≤(W_2.setCell ⟨p,4,none⟩ (iv (Pl.aQ x.z d.r.f (bits .or .i64 q v)))).drew.heap.size):=hide (Nat.le_trans HMH.o HOY.o.hh)
 have HPM:=HOY.o.p0
 have HNM:Hid (¬(lo≤w.heap.size∧w.heap.size<mid)):=hide (by have:=HHB.o;have:=HMH.o;omega)
 have HNP:Hid (¬(p≤w.heap.size∧w.heap.size<p+1)):=hide (by have:=HPB.o;omega)
 have SYD:=cellsS HBY.o HXY.o
 go_region_held3 (fun w'=>w'.cell? ⟨p,0,none⟩=some (.slice (some ⟨bQ,0,none⟩) 4 bU)∧w'.cell? ⟨p,1,none⟩=some (.slice (some ⟨bT,0,none⟩) 4 bV)∧w'.cell? ⟨p,2,none⟩=some (iv (d.aB (Pl.aQ x.z d.r.f (bits .or .i64 q v))).r.o)∧w'.cell? ⟨p,3,none⟩=some (iv (d.aB (Pl.aQ x.z d.r.f (bits .or .i64 q v))).r.p)∧w'.cell? ⟨p,4,none⟩=some (iv (d.aB (Pl.aQ x.z d.r.f (bits .or .i64 q v))).r.f)∧w'.cell? ⟨p,5,none⟩=some (iv (d.aB (Pl.aQ x.z d.r.f (bits .or .i64 q v))).r.m)∧w'.cell? ⟨p,6,none⟩=some (.bool (d.aB (Pl.aQ x.z d.r.f (bits .or .i64 q v))).r.s)∧w'.cell? ⟨p,7,none⟩=some (.bool (d.aB (Pl.aQ x.z d.r.f (bits .or .i64 q v))).r.t)∧w'.cell? ⟨w.heap.size,1,none⟩=some (iv x.z)∧w'.cell? ⟨w.heap.size,2,none⟩=some (iv x.r)) (first|with_reducible exact SYD|with_reducible exact cellsS aG.o jd.o|exact cellsS (aG.o.laid (Pl.jr (d.aB (Pl.aQ x.z d.r.f (bits .or .i64 q v))).r x.z x.r (bits .or .i64 q v))) (Blk.kept jd.o (MB.jb _ _ _ _ _ _ _ _) HNP.o)|go_keep) (first|(go_at_call 110;refine (qG _ lo mid bQ bU bT bV (d.aB (Pl.aQ x.z d.r.f (bits .or .i64 q v))).r x.z x.r (bits .or .i64 q v) HRY.o HMY.o HGF.o HI.o.r0 HI.o.r1 HVV.o).mono ?_;unfold iK;rintro e9 W_9 ⟨rfl,hr9,hk9⟩;have jU:=hide (HOY.o.regs hr9 hk9);have aG:=hide (HBY.o.regs hk9 HPM);have jd:=hide (Blk.kept HXY.o hk9 HNM.o);have jT:=hide (HSY.o.ai hk9 (Nat.le_refl _) HMH.o);clear hr9 hk9;obtain ⟨u0,u1,u2,u3,u4,u5,u6,u7,_⟩:=aG.o.cells;have f0:=aG.o.frozen 0;have f1:=aG.o.frozen 1;have f2:=aG.o.frozen 2;have f3:=aG.o.frozen 3;have f4:=aG.o.frozen 4;have f5:=aG.o.frozen 5;have f6:=aG.o.frozen 6;have f7:=aG.o.frozen 7))
 go_wp2_with fail
 first|go_end0|refine bodyPost_ret (results_none rfl _ _ _) rfl ?_
 exact ⟨rfl,aT,by rw [E.o,E2.o];exact MAt.laid aG.o jU.o,fG jT.o HPH.o _ _ _ _ _ _ _ _⟩
theorem IR (w:World) (lo mid hi p g2:Nat) (c:Pl.Mc) (x:Pl.In) (h:MAt w lo mid hi p g2 c) (G:Pl.GM c) (B:Pl.InB x) (h1:x.m=1→x.z=2) (hf:(c.read x.z x.m x.k x.e).fine=true) (ho:x.op=7) :
  Calls prog 116 #[.pointer (some ⟨p,0,none⟩),.agg (inX x)] w fun e w'=>e=.returned (.tuple #[])∧∃g3,MAt w' lo mid hi p g3 (c.two x)∧Since w lo hi g2 w' g3:=by
 have HG:=hide G
 have HI:=hide B
 have HV:=hide (Pl.di G B.z B.k0 B.k1 B.e0 B.e1 h1 B.n7)
 have HG1:=hide (G.read (m:=x.m) B.z B.k0 B.k1 B.e0 B.e1)
 have HOP:=hide ho
 clear ho
 have hl:=h.lo
 obtain ⟨X,hX,KA,HX,hbw,HHB,HGB,HPH,HPB,HMH,HS,HM⟩:=h.dL x
 obtain ⟨b0,b1,b2,b3,b4,b5,b6⟩:=aF HX.o
 rw [HOP.o] at b0
 clear h
 obtain ⟨gd,cd,ga,ca,g1,c1,c2,HB,HO⟩:=HM.o.op
 clear G B h1
 have HQ:Hid (el (c.read x.z x.m x.k x.e).r.xs x.r.toNat%Pl.top x.z=(c.read x.z x.m x.k x.e).low x.z x.r):=hide rfl
 have HQ0:=Pl.fJ HG1.o HI.o.z HI.o.r0 HI.o.r1
 obtain ⟨d,hd⟩:∃d,c.read x.z x.m x.k x.e=d:=⟨_,rfl⟩
 obtain ⟨v,hv⟩:∃v,c.aY x.z x.m x.k x.e=v:=⟨_,rfl⟩
 have E:Hid (c.two x=d.two' x (d.low x.z x.r) v):=hide (by unfold Pl.Mc.two;rw [hf,hd,hv];rfl)
 have HRD:=fun w9 h9=>jJ w9 lo mid hi p g2 c x.z x.m x.k x.e h9 HG.o HI.o.z HI.o.k0 HI.o.k1 HI.o.e0 HI.o.e1 HI.o.m0 HI.o.m1
 rw [hd] at hf HG1 HQ HQ0
 rw [hv] at HV
 simp only [hd,hv] at HRD
 clear hd hv
 obtain ⟨q,hq⟩:∃q,d.low x.z x.r=q:=⟨_,rfl⟩
 rw [hq] at E HQ HQ0
 clear hq
 have HF:=hide (Pl.bG HG1.o)
 have HVQ:=hide HQ0
 have E2:Hid (d.two' x q v=(d.aB (Pl.aQ x.z d.r.f (bits .xor .i64 q v))).put x.z x.r (bits .xor .i64 q v)):=hide (by unfold Pl.Mc.two';rw [HOP.o];rfl)
 have HVV:Hid (Pl.okv x.z (bits .xor .i64 q v)=true):=hide ((Pl.mQ HVQ.o HV.o).2.2)
 have HGF:=hide (HG1.o.aB (v:=Pl.aQ x.z d.r.f (bits .xor .i64 q v)) (Pl.dX x.z d.r.f (bits .xor .i64 q v) HVV.o HF.o).1 (Pl.dX x.z d.r.f (bits .xor .i64 q v) HVV.o HF.o).2).g
 go_enter func116,ntmps116
 go_wp2_with (first|(go_at_call 103;refine (HRD _ HM.o).mono ?_;rintro e9 W_1 ⟨rfl,aT,hm9,hb9⟩;obtain ⟨bg,bY,bI⟩:=hb9.nx HX HHB HGB HS;clear hb9;have aW:=hide hm9;obtain ⟨bQ,bU,bT,bV,eu,eP,eG,aX,bu⟩:=hm9.op;obtain ⟨lS,kW,oC,kC,oz,ou,oh,og⟩:=aX.o.c8;clear b0 b1 b2 b3 b4 b5 b6;obtain ⟨b0,b1,b2,b3,b4,b5,b6⟩:=aF bg.o;rw [HOP.o] at b0)|(go_at_call 68;refine st (bK _ lo mid hi p aT _ aW.o) ?_;rw [hf]))
 have HD:=hide (bu.o.any (ae (Kept.refl 0 0 W_1))).d
 have S1D:=cellsS (aX.o.any (ae (Kept.refl 0 0 W_1))) (bg.o.af (ae (Kept.refl 0 0 W_1)))
 go_region_held3 (fun w'=>w'.cell? ⟨p,0,none⟩=some (.slice (some ⟨bQ,0,none⟩) 4 bU)∧w'.cell? ⟨p,1,none⟩=some (.slice (some ⟨bT,0,none⟩) 4 bV)∧w'.cell? ⟨p,2,none⟩=some (iv d.r.o)∧w'.cell? ⟨p,3,none⟩=some (iv d.r.p)∧w'.cell? ⟨p,4,none⟩=some (iv d.r.f)∧w'.cell? ⟨p,5,none⟩=some (iv d.r.m)∧w'.cell? ⟨p,6,none⟩=some (.bool d.r.s)∧w'.cell? ⟨p,7,none⟩=some (.bool d.r.t)∧w'.cell? ⟨w.heap.size,1,none⟩=some (iv x.z)∧w'.cell? ⟨w.heap.size,2,none⟩=some (iv x.r)) (first|with_reducible exact S1D|with_reducible exact cellsS aN.o dM.o|go_keep) (first|(go_at_call 105;refine (wF _ bQ bU bT bV d.r x.z x.r HD.o HG1.o.g HI.o.z HI.o.r0 HI.o.r1).mono ?_;rw [HQ.o];rintro e9 W_2 ⟨rfl,hk9⟩;have K2:=hide ((ae (Kept.refl 0 0 W_1)).trans hk9);clear hk9;have gZ:=hide (aW.o.any K2.o);have aN:=hide (aX.o.any K2.o);have iq:=hide (bu.o.any K2.o);have dM:=hide (bg.o.af K2.o);have gX:=hide (bI.o.any K2.o);obtain ⟨xy,xx,xw,uM,rZ,xu,xq,xn,rY,rX,mJ,mG,mF,mD,mi,mg⟩:=aN.o.cells;clear rY rX mJ mG mF mD mi mg;have yu:=aN.o.frozen 0;have yt:=aN.o.frozen 1;have yl:=aN.o.frozen 2;have vO:=aN.o.frozen 3;have sZ:=aN.o.frozen 4;have yj:=aN.o.frozen 5;have yh:=aN.o.frozen 6;have yg:=aN.o.frozen 7;clear b0 b1 b2 b3 b4 b5 b6;obtain ⟨b0,b1,b2,b3,b4,b5,b6⟩:=aF dM.o;rw [HOP.o] at b0;clear lS kW oC kC oz ou oh og))
 go_wp2_with ((go_at_call 107;refine st (gG _ HVV.o HF.o) ?_))
 have HBY:=hide ((aN.o.cF (Pl.aQ x.z d.r.f (bits .xor .i64 q v))).any (ae (Kept.refl 0 0 (W_2.setCell ⟨p,4,none⟩ (iv (Pl.aQ x.z d.r.f (bits .xor .i64 q v)))))))
 have HOY:=hide ((iq.o.own (ak _ p 4 (iv (Pl.aQ x.z d.r.f (bits .xor .i64 q v))))).any (ae (Kept.refl 0 0 (W_2.setCell ⟨p,4,none⟩ (iv (Pl.aQ x.z d.r.f (bits .xor .i64 q v)))))))
 have HSY:=hide ((gX.o.set p 4 (iv (Pl.aQ x.z d.r.f (bits .xor .i64 q v))) HPH.o).drew)
 have HXY:=hide ((dM.o.other p 4 (iv (Pl.aQ x.z d.r.f (bits .xor .i64 q v))) (by have:=HPB.o;omega)).af (ae (Kept.refl 0 0 (W_2.setCell ⟨p,4,none⟩ (iv (Pl.aQ x.z d.r.f (bits .xor .i64 q v)))))))
 have HRY:=hide (MO.reg (r:=(d.aB (Pl.aQ x.z d.r.f (bits .xor .i64 q v))).r) HOY.o)
 have HMY:Hid (mid≤(W_2.setCell ⟨p,4,none⟩ (iv (Pl.aQ x.z d.r.f (bits .xor .i64 q v)))).drew.heap.size):=hide (Nat.le_trans HMH.o HOY.o.hh)
 have HPM:=HOY.o.p0
 have HNM:Hid (¬(lo≤w.heap.size∧w.heap.size<mid)):=hide (by have:=HHB.o;have:=HMH.o;omega)
 have HNP:Hid (¬(p≤w.heap.size∧w.heap.size<p+1)):=hide (by have:=HPB.o;omega)
 have SYD:=cellsS HBY.o HXY.o
 go_region_held3 (fun w'=>w'.cell? ⟨p,0,none⟩=some (.slice (some ⟨bQ,0,none⟩) 4 bU)∧w'.cell? ⟨p,1,none⟩=some (.slice (some ⟨bT,0,none⟩) 4 bV)∧w'.cell? ⟨p,2,none⟩=some (iv (d.aB (Pl.aQ x.z d.r.f (bits .xor .i64 q v))).r.o)∧w'.cell? ⟨p,3,none⟩=some (iv (d.aB (Pl.aQ x.z d.r.f (bits .xor .i64 q v))).r.p)∧w'.cell? ⟨p,4,none⟩=some (iv (d.aB (Pl.aQ x.z d.r.f (bits .xor .i64 q v))).r.f)∧w'.cell? ⟨p,5,none⟩=some (iv (d.aB (Pl.aQ x.z d.r.f (bits .xor .i64 q v))).r.m)∧w'.cell? ⟨p,6,none⟩=some (.bool (d.aB (Pl.aQ x.z d.r.f (bits .xor .i64 q v))).r.s)∧w'.cell? ⟨p,7,none⟩=some (.bool (d.aB (Pl.aQ x.z d.r.f (bits .xor .i64 q v))).r.t)∧w'.cell? ⟨w.heap.size,1,none⟩=some (iv x.z)∧w'.cell? ⟨w.heap.size,2,none⟩=some (iv x.r)) (first|with_reducible exact SYD|with_reducible exact cellsS aG.o jd.o|exact cellsS (aG.o.laid (Pl.jr (d.aB (Pl.aQ x.z d.r.f (bits .xor .i64 q v))).r x.z x.r (bits .xor .i64 q v))) (Blk.kept jd.o (MB.jb _ _ _ _ _ _ _ _) HNP.o)|go_keep) (first|(go_at_call 110;refine (qG _ lo mid bQ bU bT bV (d.aB (Pl.aQ x.z d.r.f (bits .xor .i64 q v))).r x.z x.r (bits .xor .i64 q v) HRY.o HMY.o HGF.o HI.o.r0 HI.o.r1 HVV.o).mono ?_;unfold iK;rintro e9 W_9 ⟨rfl,hr9,hk9⟩;have jU:=hide (HOY.o.regs hr9 hk9);have aG:=hide (HBY.o.regs hk9 HPM);have jd:=hide (Blk.kept HXY.o hk9 HNM.o);have jT:=hide (HSY.o.ai hk9 (Nat.le_refl _) HMH.o);clear hr9 hk9;obtain ⟨u0,u1,u2,u3,u4,u5,u6,u7,_⟩:=aG.o.cells;have f0:=aG.o.frozen 0;have f1:=aG.o.frozen 1;have f2:=aG.o.frozen 2;have f3:=aG.o.frozen 3;have f4:=aG.o.frozen 4;have f5:=aG.o.frozen 5;have f6:=aG.o.frozen 6;have f7:=aG.o.frozen 7))
 go_wp2_with fail
 first|go_end0|refine bodyPost_ret (results_none rfl _ _ _) rfl ?_
 exact ⟨rfl,aT,by rw [E.o,E2.o];exact MAt.laid aG.o jU.o,fG jT.o HPH.o _ _ _ _ _ _ _ _⟩
theorem N7 (w:World) (lo mid hi p g2:Nat) (c:Pl.Mc) (x:Pl.In) (h:MAt w lo mid hi p g2 c) (G:Pl.GM c) (B:Pl.InB x) (h1:x.m=1→x.z=2) (hf:(c.read x.z x.m x.k x.e).fine=true) (ho:x.op=1) :
  Calls prog 116 #[.pointer (some ⟨p,0,none⟩),.agg (inX x)] w fun e w'=>e=.returned (.tuple #[])∧∃g3,MAt w' lo mid hi p g3 (c.two x)∧Since w lo hi g2 w' g3:=by
 have HG:=hide G
 have HI:=hide B
 have HV:=hide (Pl.di G B.z B.k0 B.k1 B.e0 B.e1 h1 B.n7)
 have HG1:=hide (G.read (m:=x.m) B.z B.k0 B.k1 B.e0 B.e1)
 have HOP:=hide ho
 clear ho
 have hl:=h.lo
 obtain ⟨X,hX,KA,HX,hbw,HHB,HGB,HPH,HPB,HMH,HS,HM⟩:=h.dL x
 obtain ⟨b0,b1,b2,b3,b4,b5,b6⟩:=aF HX.o
 rw [HOP.o] at b0
 clear h
 obtain ⟨gd,cd,ga,ca,g1,c1,c2,HB,HO⟩:=HM.o.op
 clear G B h1
 have HQ:Hid (el (c.read x.z x.m x.k x.e).r.xs x.r.toNat%Pl.top x.z=(c.read x.z x.m x.k x.e).low x.z x.r):=hide rfl
 have HQ0:=Pl.fJ HG1.o HI.o.z HI.o.r0 HI.o.r1
 obtain ⟨d,hd⟩:∃d,c.read x.z x.m x.k x.e=d:=⟨_,rfl⟩
 obtain ⟨v,hv⟩:∃v,c.aY x.z x.m x.k x.e=v:=⟨_,rfl⟩
 have E:Hid (c.two x=d.two' x (d.low x.z x.r) v):=hide (by unfold Pl.Mc.two;rw [hf,hd,hv];rfl)
 have HRD:=fun w9 h9=>jJ w9 lo mid hi p g2 c x.z x.m x.k x.e h9 HG.o HI.o.z HI.o.k0 HI.o.k1 HI.o.e0 HI.o.e1 HI.o.m0 HI.o.m1
 rw [hd] at hf HG1 HQ HQ0
 rw [hv] at HV
 simp only [hd,hv] at HRD
 clear hd hv
 obtain ⟨q,hq⟩:∃q,d.low x.z x.r=q:=⟨_,rfl⟩
 rw [hq] at E HQ HQ0
 clear hq
 have HF:=hide (Pl.bG HG1.o)
 have HVQ:=hide HQ0
 have E2:Hid (d.two' x q v=(d.aB (Pl.aQ x.z d.r.f (v))).put x.z x.r (v)):=hide (by unfold Pl.Mc.two';rw [HOP.o];rfl)
 have HVV:Hid (Pl.okv x.z (v)=true):=hide (HV.o)
 have HGF:=hide (HG1.o.aB (v:=Pl.aQ x.z d.r.f (v)) (Pl.dX x.z d.r.f (v) HVV.o HF.o).1 (Pl.dX x.z d.r.f (v) HVV.o HF.o).2).g
 go_enter func116,ntmps116
 go_wp2_with (first|(go_at_call 103;refine (HRD _ HM.o).mono ?_;rintro e9 W_1 ⟨rfl,aT,hm9,hb9⟩;obtain ⟨bg,bY,bI⟩:=hb9.nx HX HHB HGB HS;clear hb9;have aW:=hide hm9;obtain ⟨bQ,bU,bT,bV,eu,eP,eG,aX,bu⟩:=hm9.op;obtain ⟨lS,kW,oC,kC,oz,ou,oh,og⟩:=aX.o.c8;clear b0 b1 b2 b3 b4 b5 b6;obtain ⟨b0,b1,b2,b3,b4,b5,b6⟩:=aF bg.o;rw [HOP.o] at b0)|(go_at_call 68;refine st (bK _ lo mid hi p aT _ aW.o) ?_;rw [hf]))
 have HD:=hide (bu.o.any (ae (Kept.refl 0 0 W_1))).d
 have S1D:=cellsS (aX.o.any (ae (Kept.refl 0 0 W_1))) (bg.o.af (ae (Kept.refl 0 0 W_1)))
 go_region_held3 (fun w'=>w'.cell? ⟨p,0,none⟩=some (.slice (some ⟨bQ,0,none⟩) 4 bU)∧w'.cell? ⟨p,1,none⟩=some (.slice (some ⟨bT,0,none⟩) 4 bV)∧w'.cell? ⟨p,2,none⟩=some (iv d.r.o)∧w'.cell? ⟨p,3,none⟩=some (iv d.r.p)∧w'.cell? ⟨p,4,none⟩=some (iv d.r.f)∧w'.cell? ⟨p,5,none⟩=some (iv d.r.m)∧w'.cell? ⟨p,6,none⟩=some (.bool d.r.s)∧w'.cell? ⟨p,7,none⟩=some (.bool d.r.t)∧w'.cell? ⟨w.heap.size,1,none⟩=some (iv x.z)∧w'.cell? ⟨w.heap.size,2,none⟩=some (iv x.r)) (first|with_reducible exact S1D|with_reducible exact cellsS aN.o dM.o|go_keep) (first|(go_at_call 105;refine (wF _ bQ bU bT bV d.r x.z x.r HD.o HG1.o.g HI.o.z HI.o.r0 HI.o.r1).mono ?_;rw [HQ.o];rintro e9 W_2 ⟨rfl,hk9⟩;have K2:=hide ((ae (Kept.refl 0 0 W_1)).trans hk9);clear hk9;have gZ:=hide (aW.o.any K2.o);have aN:=hide (aX.o.any K2.o);have iq:=hide (bu.o.any K2.o);have dM:=hide (bg.o.af K2.o);have gX:=hide (bI.o.any K2.o);obtain ⟨xy,xx,xw,uM,rZ,xu,xq,xn,rY,rX,mJ,mG,mF,mD,mi,mg⟩:=aN.o.cells;clear rY rX mJ mG mF mD mi mg;have yu:=aN.o.frozen 0;have yt:=aN.o.frozen 1;have yl:=aN.o.frozen 2;have vO:=aN.o.frozen 3;have sZ:=aN.o.frozen 4;have yj:=aN.o.frozen 5;have yh:=aN.o.frozen 6;have yg:=aN.o.frozen 7;clear b0 b1 b2 b3 b4 b5 b6;obtain ⟨b0,b1,b2,b3,b4,b5,b6⟩:=aF dM.o;rw [HOP.o] at b0;clear lS kW oC kC oz ou oh og))
 go_wp2_with ((go_at_call 107;refine st (gG _ HVV.o HF.o) ?_))
 have HBY:=hide ((aN.o.cF (Pl.aQ x.z d.r.f (v))).any (ae (Kept.refl 0 0 (W_2.setCell ⟨p,4,none⟩ (iv (Pl.aQ x.z d.r.f (v)))))))
 have HOY:=hide ((iq.o.own (ak _ p 4 (iv (Pl.aQ x.z d.r.f (v))))).any (ae (Kept.refl 0 0 (W_2.setCell ⟨p,4,none⟩ (iv (Pl.aQ x.z d.r.f (v)))))))
 have HSY:=hide ((gX.o.set p 4 (iv (Pl.aQ x.z d.r.f (v))) HPH.o).drew)
 have HXY:=hide ((dM.o.other p 4 (iv (Pl.aQ x.z d.r.f (v))) (by have:=HPB.o;omega)).af (ae (Kept.refl 0 0 (W_2.setCell ⟨p,4,none⟩ (iv (Pl.aQ x.z d.r.f (v)))))))
 have HRY:=hide (MO.reg (r:=(d.aB (Pl.aQ x.z d.r.f (v))).r) HOY.o)
 have HMY:Hid (mid≤(W_2.setCell ⟨p,4,none⟩ (iv (Pl.aQ x.z d.r.f (v)))).drew.heap.size):=hide (Nat.le_trans HMH.o HOY.o.hh)
 have HPM:=HOY.o.p0
 have HNM:Hid (¬(lo≤w.heap.size∧w.heap.size<mid)):=hide (by have:=HHB.o;have:=HMH.o;omega)
 have HNP:Hid (¬(p≤w.heap.size∧w.heap.size<p+1)):=hide (by have:=HPB.o;omega)
 have SYD:=cellsS HBY.o HXY.o
 go_region_held3 (fun w'=>w'.cell? ⟨p,0,none⟩=some (.slice (some ⟨bQ,0,none⟩) 4 bU)∧w'.cell? ⟨p,1,none⟩=some (.slice (some ⟨bT,0,none⟩) 4 bV)∧w'.cell? ⟨p,2,none⟩=some (iv (d.aB (Pl.aQ x.z d.r.f (v))).r.o)∧w'.cell? ⟨p,3,none⟩=some (iv (d.aB (Pl.aQ x.z d.r.f (v))).r.p)∧w'.cell? ⟨p,4,none⟩=some (iv (d.aB (Pl.aQ x.z d.r.f (v))).r.f)∧w'.cell? ⟨p,5,none⟩=some (iv (d.aB (Pl.aQ x.z d.r.f (v))).r.m)∧w'.cell? ⟨p,6,none⟩=some (.bool (d.aB (Pl.aQ x.z d.r.f (v))).r.s)∧w'.cell? ⟨p,7,none⟩=some (.bool (d.aB (Pl.aQ x.z d.r.f (v))).r.t)∧w'.cell? ⟨w.heap.size,1,none⟩=some (iv x.z)∧w'.cell? ⟨w.heap.size,2,none⟩=some (iv x.r)) (first|with_reducible exact SYD|with_reducible exact cellsS aG.o jd.o|exact cellsS (aG.o.laid (Pl.jr (d.aB (Pl.aQ x.z d.r.f (v))).r x.z x.r (v))) (Blk.kept jd.o (MB.jb _ _ _ _ _ _ _ _) HNP.o)|go_keep) (first|(go_at_call 110;refine (qG _ lo mid bQ bU bT bV (d.aB (Pl.aQ x.z d.r.f (v))).r x.z x.r (v) HRY.o HMY.o HGF.o HI.o.r0 HI.o.r1 HVV.o).mono ?_;unfold iK;rintro e9 W_9 ⟨rfl,hr9,hk9⟩;have jU:=hide (HOY.o.regs hr9 hk9);have aG:=hide (HBY.o.regs hk9 HPM);have jd:=hide (Blk.kept HXY.o hk9 HNM.o);have jT:=hide (HSY.o.ai hk9 (Nat.le_refl _) HMH.o);clear hr9 hk9;obtain ⟨u0,u1,u2,u3,u4,u5,u6,u7,_⟩:=aG.o.cells;have f0:=aG.o.frozen 0;have f1:=aG.o.frozen 1;have f2:=aG.o.frozen 2;have f3:=aG.o.frozen 3;have f4:=aG.o.frozen 4;have f5:=aG.o.frozen 5;have f6:=aG.o.frozen 6;have f7:=aG.o.frozen 7))
 go_wp2_with fail
 first|go_end0|refine bodyPost_ret (results_none rfl _ _ _) rfl ?_
 exact ⟨rfl,aT,by rw [E.o,E2.o];exact MAt.laid aG.o jU.o,fG jT.o HPH.o _ _ _ _ _ _ _ _⟩
theorem Bc (w:World) (lo mid hi p g2:Nat) (c:Pl.Mc) (x:Pl.In) (h:MAt w lo mid hi p g2 c) (G:Pl.GM c) (B:Pl.InB x) (h1:x.m=1→x.z=2) (ho:x.op=1∨x.op=3∨x.op=4∨x.op=5∨x.op=6∨x.op=7∨x.op=8) :
  Calls prog 116 #[.pointer (some ⟨p,0,none⟩),.agg (inX x)] w fun e w'=>e=.returned (.tuple #[])∧∃g3,MAt w' lo mid hi p g3 (c.two x)∧Since w lo hi g2 w' g3:=by
 cases hf:(c.read x.z x.m x.k x.e).fine
 ·exact N9 w lo mid hi p g2 c x h G B h1 hf
 ·rcases ho with ho|ho|ho|ho|ho|ho|ho
  ·exact N7 w lo mid hi p g2 c x h G B h1 hf ho
  ·exact IX w lo mid hi p g2 c x h G B h1 hf ho
  ·exact IU w lo mid hi p g2 c x h G B h1 hf ho
  ·exact IW w lo mid hi p g2 c x h G B h1 hf ho
  ·exact N8 w lo mid hi p g2 c x h G B h1 hf ho
  ·exact IR w lo mid hi p g2 c x h G B h1 hf ho
  ·exact IV w lo mid hi p g2 c x h G B h1 hf ho
end Go.Proofs.YtkkmnnhaailkcaaGreatDoor
