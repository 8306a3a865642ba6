/- Part 5 of what the last text leans on. -/
import Derived.Test.YtblddehlkaolbaaGreatDoorJA4
import Derived.Deep.RegionHeld3
import Derived.Test.YtblddehlkaolbaaGreatDoorJA1
import Derived.Test.YtblddehlkaolbaaGreatDoorJA2
set_option maxRecDepth 100000
set_option maxHeartbeats 16000000
namespace Go.Proofs.YtblddehlkaolbaaGreatDoor
open Go.RowKit Go.Proofs.Tryz
set_option linter.unusedVariables false
theorem IY (w:World) (lo mid hi p g2:Nat) (c:Pl.Mc) (x:Pl.In) (h:MAt w lo mid hi p g2 c) (G:Pl.GM c) (B:Pl.InB x) (h1:x.m=1→x.z=2) (hf:(c.read x.z x.m x.k x.e).fine=true) (ho:x.op=5) :
  Calls prog 86 #[.pointer (some ⟨p,0,none⟩),.agg (inX x)] w fun e w'=>e=.returned (.tuple #[])∧∃g3,MAt w' lo mid hi p g3 (c.two x)∧Since w lo hi g2 w' g3:=by
 have HG:=hide G
 have HI:=hide B
 have HV:=hide (Pl.di G B.z B.k0 B.k1 B.e0 B.e1 h1 B.n7)
 have HG1:=hide (G.read (m:=x.m) B.z B.k0 B.k1 B.e0 B.e1)
 have HOP:=hide ho
 clear ho
 have hl:=h.lo
 obtain ⟨X,hX,KA,HX,hbw,HHB,HGB,HPH,HPB,HMH,HS,HM⟩:=h.dL x
 obtain ⟨b0,b1,b2,b3,b4,b5,b6⟩:=aF HX.o
 rw [HOP.o] at b0
 clear h
 obtain ⟨gd,cd,ga,ca,g1,c1,c2,HB,HO⟩:=HM.o.op
 clear G B h1
 have HQ:Hid (el (c.read x.z x.m x.k x.e).r.xs x.r.toNat%Pl.top x.z=(c.read x.z x.m x.k x.e).low x.z x.r):=hide rfl
 have HQ0:=Pl.fJ HG1.o HI.o.z HI.o.r0 HI.o.r1
 obtain ⟨d,hd⟩:∃d,c.read x.z x.m x.k x.e=d:=⟨_,rfl⟩
 obtain ⟨v,hv⟩:∃v,c.aY x.z x.m x.k x.e=v:=⟨_,rfl⟩
 have E:Hid (c.two x=d.two' x (d.low x.z x.r) v):=hide (by unfold Pl.Mc.two;rw [hf,hd,hv];rfl)
 have HRD:=fun w9 h9=>jJ w9 lo mid hi p g2 c x.z x.m x.k x.e h9 HG.o HI.o.z HI.o.k0 HI.o.k1 HI.o.e0 HI.o.e1 HI.o.m0 HI.o.m1
 rw [hd] at hf HG1 HQ HQ0
 rw [hv] at HV
 simp only [hd,hv] at HRD
 clear hd hv
 obtain ⟨q,hq⟩:∃q,d.low x.z x.r=q:=⟨_,rfl⟩
 rw [hq] at E HQ HQ0
 clear hq
 have HF:=hide (Pl.bG HG1.o)
 have HVQ:=hide HQ0
 have E2:Hid (d.two' x q v=(d.aB (Pl.aQ x.z d.r.f (bits .and .i64 q v))).put x.z x.r (bits .and .i64 q v)):=hide (by unfold Pl.Mc.two';rw [HOP.o];rfl)
 have HVV:Hid (Pl.okv x.z (bits .and .i64 q v)=true):=hide ((Pl.mV HVQ.o HV.o).1)
 have HGF:=hide (HG1.o.aB (v:=Pl.aQ x.z d.r.f (bits .and .i64 q v)) (Pl.dX x.z d.r.f (bits .and .i64 q v) HVV.o HF.o).1 (Pl.dX x.z d.r.f (bits .and .i64 q v) HVV.o HF.o).2).g
 go_enter func86,ntmps86
 go_wp2_with (first|(go_at_call 72;refine (HRD _ HM.o).mono ?_;rintro e9 W_1 ⟨rfl,aT,hm9,hb9⟩;obtain ⟨bg,bY,bI⟩:=hb9.nx HX HHB HGB HS;clear hb9;have aW:=hide hm9;obtain ⟨bQ,bU,bT,bV,eu,eP,eG,aX,bu⟩:=hm9.op;obtain ⟨lT,kX,oD,kC,oC,oz,ou,oh⟩:=aX.o.c8;clear b0 b1 b2 b3 b4 b5 b6;obtain ⟨b0,b1,b2,b3,b4,b5,b6⟩:=aF bg.o;rw [HOP.o] at b0)|(go_at_call 41;refine st (bK _ lo mid hi p aT _ aW.o) ?_;rw [hf]))
 have HD:=hide (bu.o.any (ae (Kept.refl 0 0 W_1))).d
 have S1D:=cellsS (aX.o.any (ae (Kept.refl 0 0 W_1))) (bg.o.af (ae (Kept.refl 0 0 W_1)))
 go_region_held3 (fun w'=>w'.cell? ⟨p,0,none⟩=some (.slice (some ⟨bQ,0,none⟩) 4 bU)∧w'.cell? ⟨p,1,none⟩=some (.slice (some ⟨bT,0,none⟩) 4 bV)∧w'.cell? ⟨p,2,none⟩=some (iv d.r.o)∧w'.cell? ⟨p,3,none⟩=some (iv d.r.p)∧w'.cell? ⟨p,4,none⟩=some (iv d.r.f)∧w'.cell? ⟨p,5,none⟩=some (iv d.r.m)∧w'.cell? ⟨p,6,none⟩=some (.bool d.r.s)∧w'.cell? ⟨p,7,none⟩=some (.bool d.r.t)∧w'.cell? ⟨w.heap.size,1,none⟩=some (iv x.z)∧w'.cell? ⟨w.heap.size,2,none⟩=some (iv x.r)) (first|with_reducible exact S1D|with_reducible exact cellsS aN.o dM.o|go_keep) (first|(go_at_call 74;refine (wG _ bQ bU bT bV d.r x.z x.r HD.o HG1.o.g HI.o.z HI.o.r0 HI.o.r1).mono ?_;rw [HQ.o];rintro e9 W_2 ⟨rfl,hk9⟩;have K2:=hide ((ae (Kept.refl 0 0 W_1)).trans hk9);clear hk9;have gZ:=hide (aW.o.any K2.o);have aN:=hide (aX.o.any K2.o);have iq:=hide (bu.o.any K2.o);have dM:=hide (bg.o.af K2.o);have gX:=hide (bI.o.any K2.o);obtain ⟨xB,xA,xy,uN,sD,xx,xw,xu,rZ,rY,mM,mJ,mG,mF,mD,mi⟩:=aN.o.cells;clear rZ rY mM mJ mG mF mD mi;have yx:=aN.o.frozen 0;have yw:=aN.o.frozen 1;have yu:=aN.o.frozen 2;have vP:=aN.o.frozen 3;have tu:=aN.o.frozen 4;have yt:=aN.o.frozen 5;have yl:=aN.o.frozen 6;have yj:=aN.o.frozen 7;clear b0 b1 b2 b3 b4 b5 b6;obtain ⟨b0,b1,b2,b3,b4,b5,b6⟩:=aF dM.o;rw [HOP.o] at b0;clear lT kX oD kC oC oz ou oh))
 go_wp2_with ((go_at_call 76;refine st (gG _ HVV.o HF.o) ?_))
 have HBY:=hide ((aN.o.cF (Pl.aQ x.z d.r.f (bits .and .i64 q v))).any (ae (Kept.refl 0 0 (W_2.setCell ⟨p,4,none⟩ (iv (Pl.aQ x.z d.r.f (bits .and .i64 q v)))))))
 have HOY:=hide ((iq.o.own (ak _ p 4 (iv (Pl.aQ x.z d.r.f (bits .and .i64 q v))))).any (ae (Kept.refl 0 0 (W_2.setCell ⟨p,4,none⟩ (iv (Pl.aQ x.z d.r.f (bits .and .i64 q v)))))))
 have HSY:=hide ((gX.o.set p 4 (iv (Pl.aQ x.z d.r.f (bits .and .i64 q v))) HPH.o).drew)
 have HXY:=hide ((dM.o.other p 4 (iv (Pl.aQ x.z d.r.f (bits .and .i64 q v))) (by have:=HPB.o;omega)).af (ae (Kept.refl 0 0 (W_2.setCell ⟨p,4,none⟩ (iv (Pl.aQ x.z d.r.f (bits .and .i64 q v)))))))
 have HRY:=hide (MO.reg (r:=(d.aB (Pl.aQ x.z d.r.f (bits .and .i64 q v))).r) HOY.o)
 have HMY:Hid (mid≤(W_2.setCell ⟨p,4,none⟩ (iv (Pl.aQ x.z d.r.f (bits .and .i64 q v)))).drew.heap.size):=hide (Nat.le_trans HMH.o HOY.o.hh)
 have HPM:=HOY.o.p0
 have HNM:Hid (¬(lo≤w.heap.size∧w.heap.size<mid)):=hide (by have:=HHB.o;have:=HMH.o;omega)
 have HNP:Hid (¬(p≤w.heap.size∧w.heap.size<p+1)):=hide (by have:=HPB.o;omega)
 have SYD:=cellsS HBY.o HXY.o
 go_region_held3 (fun w'=>w'.cell? ⟨p,0,none⟩=some (.slice (some ⟨bQ,0,none⟩) 4 bU)∧w'.cell? ⟨p,1,none⟩=some (.slice (some ⟨bT,0,none⟩) 4 bV)∧w'.cell? ⟨p,2,none⟩=some (iv (d.aB (Pl.aQ x.z d.r.f (bits .and .i64 q v))).r.o)∧w'.cell? ⟨p,3,none⟩=some (iv (d.aB (Pl.aQ x.z d.r.f (bits .and .i64 q v))).r.p)∧w'.cell? ⟨p,4,none⟩=some (iv (d.aB (Pl.aQ x.z d.r.f (bits .and .i64 q v))).r.f)∧w'.cell? ⟨p,5,none⟩=some (iv (d.aB (Pl.aQ x.z d.r.f (bits .and .i64 q v))).r.m)∧w'.cell? ⟨p,6,none⟩=some (.bool (d.aB (Pl.aQ x.z d.r.f (bits .and .i64 q v))).r.s)∧w'.cell? ⟨p,7,none⟩=some (.bool (d.aB (Pl.aQ x.z d.r.f (bits .and .i64 q v))).r.t)∧w'.cell? ⟨w.heap.size,1,none⟩=some (iv x.z)∧w'.cell? ⟨w.heap.size,2,none⟩=some (iv x.r)) (first|with_reducible exact SYD|with_reducible exact cellsS aG.o jd.o|exact cellsS (aG.o.laid (Pl.jr (d.aB (Pl.aQ x.z d.r.f (bits .and .i64 q v))).r x.z x.r (bits .and .i64 q v))) (Blk.kept jd.o (MB.jb _ _ _ _ _ _ _ _) HNP.o)|go_keep) (first|(go_at_call 79;refine (qH _ lo mid bQ bU bT bV (d.aB (Pl.aQ x.z d.r.f (bits .and .i64 q v))).r x.z x.r (bits .and .i64 q v) HRY.o HMY.o HGF.o HI.o.r0 HI.o.r1 HVV.o).mono ?_;unfold iK;rintro e9 W_9 ⟨rfl,hr9,hk9⟩;have jU:=hide (HOY.o.regs hr9 hk9);have aG:=hide (HBY.o.regs hk9 HPM);have jd:=hide (Blk.kept HXY.o hk9 HNM.o);have jT:=hide (HSY.o.ai hk9 (Nat.le_refl _) HMH.o);clear hr9 hk9;obtain ⟨u0,u1,u2,u3,u4,u5,u6,u7,_⟩:=aG.o.cells;have f0:=aG.o.frozen 0;have f1:=aG.o.frozen 1;have f2:=aG.o.frozen 2;have f3:=aG.o.frozen 3;have f4:=aG.o.frozen 4;have f5:=aG.o.frozen 5;have f6:=aG.o.frozen 6;have f7:=aG.o.frozen 7))
 go_wp2_with fail
 first|go_end0|refine bodyPost_ret (results_none rfl _ _ _) rfl ?_
 exact ⟨rfl,aT,by rw [E.o,E2.o];exact MAt.laid aG.o jU.o,fG jT.o HPH.o _ _ _ _ _ _ _ _⟩
theorem Oa (w:World) (lo mid hi p g2:Nat) (c:Pl.Mc) (x:Pl.In) (h:MAt w lo mid hi p g2 c) (G:Pl.GM c) (B:Pl.InB x) (h1:x.m=1→x.z=2) (hf:(c.read x.z x.m x.k x.e).fine=true) (ho:x.op=6) :
  Calls prog 86 #[.pointer (some ⟨p,0,none⟩),.agg (inX x)] w fun e w'=>e=.returned (.tuple #[])∧∃g3,MAt w' lo mid hi p g3 (c.two x)∧Since w lo hi g2 w' g3:=by
 have HG:=hide G
 have HI:=hide B
 have HV:=hide (Pl.di G B.z B.k0 B.k1 B.e0 B.e1 h1 B.n7)
 have HG1:=hide (G.read (m:=x.m) B.z B.k0 B.k1 B.e0 B.e1)
 have HOP:=hide ho
 clear ho
 have hl:=h.lo
 obtain ⟨X,hX,KA,HX,hbw,HHB,HGB,HPH,HPB,HMH,HS,HM⟩:=h.dL x
 obtain ⟨b0,b1,b2,b3,b4,b5,b6⟩:=aF HX.o
 rw [HOP.o] at b0
 clear h
 obtain ⟨gd,cd,ga,ca,g1,c1,c2,HB,HO⟩:=HM.o.op
 clear G B h1
 have HQ:Hid (el (c.read x.z x.m x.k x.e).r.xs x.r.toNat%Pl.top x.z=(c.read x.z x.m x.k x.e).low x.z x.r):=hide rfl
 have HQ0:=Pl.fJ HG1.o HI.o.z HI.o.r0 HI.o.r1
 obtain ⟨d,hd⟩:∃d,c.read x.z x.m x.k x.e=d:=⟨_,rfl⟩
 obtain ⟨v,hv⟩:∃v,c.aY x.z x.m x.k x.e=v:=⟨_,rfl⟩
 have E:Hid (c.two x=d.two' x (d.low x.z x.r) v):=hide (by unfold Pl.Mc.two;rw [hf,hd,hv];rfl)
 have HRD:=fun w9 h9=>jJ w9 lo mid hi p g2 c x.z x.m x.k x.e h9 HG.o HI.o.z HI.o.k0 HI.o.k1 HI.o.e0 HI.o.e1 HI.o.m0 HI.o.m1
 rw [hd] at hf HG1 HQ HQ0
 rw [hv] at HV
 simp only [hd,hv] at HRD
 clear hd hv
 obtain ⟨q,hq⟩:∃q,d.low x.z x.r=q:=⟨_,rfl⟩
 rw [hq] at E HQ HQ0
 clear hq
 have HF:=hide (Pl.bG HG1.o)
 have HVQ:=hide HQ0
 have E2:Hid (d.two' x q v=(d.aB (Pl.aQ x.z d.r.f (bits .or .i64 q v))).put x.z x.r (bits .or .i64 q v)):=hide (by unfold Pl.Mc.two';rw [HOP.o];rfl)
 have HVV:Hid (Pl.okv x.z (bits .or .i64 q v)=true):=hide ((Pl.mV HVQ.o HV.o).2.1)
 have HGF:=hide (HG1.o.aB (v:=Pl.aQ x.z d.r.f (bits .or .i64 q v)) (Pl.dX x.z d.r.f (bits .or .i64 q v) HVV.o HF.o).1 (Pl.dX x.z d.r.f (bits .or .i64 q v) HVV.o HF.o).2).g
 go_enter func86,ntmps86
 go_wp2_with (first|(go_at_call 72;refine (HRD _ HM.o).mono ?_;rintro e9 W_1 ⟨rfl,aT,hm9,hb9⟩;obtain ⟨bg,bY,bI⟩:=hb9.nx HX HHB HGB HS;clear hb9;have aW:=hide hm9;obtain ⟨bQ,bU,bT,bV,eu,eP,eG,aX,bu⟩:=hm9.op;obtain ⟨lT,kX,oD,kC,oC,oz,ou,oh⟩:=aX.o.c8;clear b0 b1 b2 b3 b4 b5 b6;obtain ⟨b0,b1,b2,b3,b4,b5,b6⟩:=aF bg.o;rw [HOP.o] at b0)|(go_at_call 41;refine st (bK _ lo mid hi p aT _ aW.o) ?_;rw [hf]))
 have HD:=hide (bu.o.any (ae (Kept.refl 0 0 W_1))).d
 have S1D:=cellsS (aX.o.any (ae (Kept.refl 0 0 W_1))) (bg.o.af (ae (Kept.refl 0 0 W_1)))
 go_region_held3 (fun w'=>w'.cell? ⟨p,0,none⟩=some (.slice (some ⟨bQ,0,none⟩) 4 bU)∧w'.cell? ⟨p,1,none⟩=some (.slice (some ⟨bT,0,none⟩) 4 bV)∧w'.cell? ⟨p,2,none⟩=some (iv d.r.o)∧w'.cell? ⟨p,3,none⟩=some (iv d.r.p)∧w'.cell? ⟨p,4,none⟩=some (iv d.r.f)∧w'.cell? ⟨p,5,none⟩=some (iv d.r.m)∧w'.cell? ⟨p,6,none⟩=some (.bool d.r.s)∧w'.cell? ⟨p,7,none⟩=some (.bool d.r.t)∧w'.cell? ⟨w.heap.size,1,none⟩=some (iv x.z)∧w'.cell? ⟨w.heap.size,2,none⟩=some (iv x.r)) (first|with_reducible exact S1D|with_reducible exact cellsS aN.o dM.o|go_keep) (first|(go_at_call 74;refine (wG _ bQ bU bT bV d.r x.z x.r HD.o HG1.o.g HI.o.z HI.o.r0 HI.o.r1).mono ?_;rw [HQ.o];rintro e9 W_2 ⟨rfl,hk9⟩;have K2:=hide ((ae (Kept.refl 0 0 W_1)).trans hk9);clear hk9;have gZ:=hide (aW.o.any K2.o);have aN:=hide (aX.o.any K2.o);have iq:=hide (bu.o.any K2.o);have dM:=hide (bg.o.af K2.o);have gX:=hide (bI.o.any K2.o);obtain ⟨xB,xA,xy,uN,sD,xx,xw,xu,rZ,rY,mM,mJ,mG,mF,mD,mi⟩:=aN.o.cells;clear rZ rY mM mJ mG mF mD mi;have yx:=aN.o.frozen 0;have yw:=aN.o.frozen 1;have yu:=aN.o.frozen 2;have vP:=aN.o.frozen 3;have tu:=aN.o.frozen 4;have yt:=aN.o.frozen 5;have yl:=aN.o.frozen 6;have yj:=aN.o.frozen 7;clear b0 b1 b2 b3 b4 b5 b6;obtain ⟨b0,b1,b2,b3,b4,b5,b6⟩:=aF dM.o;rw [HOP.o] at b0;clear lT kX oD kC oC oz ou oh))
 go_wp2_with ((go_at_call 76;refine st (gG _ HVV.o HF.o) ?_))
 have HBY:=hide ((aN.o.cF (Pl.aQ x.z d.r.f (bits .or .i64 q v))).any (ae (Kept.refl 0 0 (W_2.setCell ⟨p,4,none⟩ (iv (Pl.aQ x.z d.r.f (bits .or .i64 q v)))))))
 have HOY:=hide ((iq.o.own (ak _ p 4 (iv (Pl.aQ x.z d.r.f (bits .or .i64 q v))))).any (ae (Kept.refl 0 0 (W_2.setCell ⟨p,4,none⟩ (iv (Pl.aQ x.z d.r.f (bits .or .i64 q v)))))))
 have HSY:=hide ((gX.o.set p 4 (iv (Pl.aQ x.z d.r.f (bits .or .i64 q v))) HPH.o).drew)
 have HXY:=hide ((dM.o.other p 4 (iv (Pl.aQ x.z d.r.f (bits .or .i64 q v))) (by have:=HPB.o;omega)).af (ae (Kept.refl 0 0 (W_2.setCell ⟨p,4,none⟩ (iv (Pl.aQ x.z d.r.f (bits .or .i64 q v)))))))
 have HRY:=hide (MO.reg (r:=(d.aB (Pl.aQ x.z d.r.f (bits .or .i64 q v))).r) HOY.o)
 have HMY:Hid (mid≤(W_2.setCell ⟨p,4,none⟩ (iv (Pl.aQ x.z d.r.f (bits .or .i64 q v)))).drew.heap.size):=hide (Nat.le_trans HMH.o HOY.o.hh)
 have HPM:=HOY.o.p0
 have HNM:Hid (¬(lo≤w.heap.size∧w.heap.size<mid)):=hide (by have:=HHB.o;have:=HMH.o;omega)
 have HNP:Hid (¬(p≤w.heap.size∧w.heap.size<p+1)):=hide (by have:=HPB.o;omega)
 have SYD:=cellsS HBY.o HXY.o
 go_region_held3 (fun w'=>w'.cell? ⟨p,0,none⟩=some (.slice (some ⟨bQ,0,none⟩) 4 bU)∧w'.cell? ⟨p,1,none⟩=some (.slice (some ⟨bT,0,none⟩) 4 bV)∧w'.cell? ⟨p,2,none⟩=some (iv (d.aB (Pl.aQ x.z d.r.f (bits .or .i64 q v))).r.o)∧w'.cell? ⟨p,3,none⟩=some (iv (d.aB (Pl.aQ x.z d.r.f (bits .or .i64 q v))).r.p)∧w'.cell? ⟨p,4,none⟩=some (iv (d.aB (Pl.aQ x.z d.r.f (bits .or .i64 q v))).r.f)∧w'.cell? ⟨p,5,none⟩=some (iv (d.aB (Pl.aQ x.z d.r.f (bits .or .i64 q v))).r.m)∧w'.cell? ⟨p,6,none⟩=some (.bool (d.aB (Pl.aQ x.z d.r.f (bits .or .i64 q v))).r.s)∧w'.cell? ⟨p,7,none⟩=some (.bool (d.aB (Pl.aQ x.z d.r.f (bits .or .i64 q v))).r.t)∧w'.cell? ⟨w.heap.size,1,none⟩=some (iv x.z)∧w'.cell? ⟨w.heap.size,2,none⟩=some (iv x.r)) (first|with_reducible exact SYD|with_reducible exact cellsS aG.o jd.o|exact cellsS (aG.o.laid (Pl.jr (d.aB (Pl.aQ x.z d.r.f (bits .or .i64 q v))).r x.z x.r (bits .or .i64 q v))) (Blk.kept jd.o (MB.jb _ _ _ _ _ _ _ _) HNP.o)|go_keep) (first|(go_at_call 79;refine (qH _ lo mid bQ bU bT bV (d.aB (Pl.aQ x.z d.r.f (bits .or .i64 q v))).r x.z x.r (bits .or .i64 q v) HRY.o HMY.o HGF.o HI.o.r0 HI.o.r1 HVV.o).mono ?_;unfold iK;rintro e9 W_9 ⟨rfl,hr9,hk9⟩;have jU:=hide (HOY.o.regs hr9 hk9);have aG:=hide (HBY.o.regs hk9 HPM);have jd:=hide (Blk.kept HXY.o hk9 HNM.o);have jT:=hide (HSY.o.ai hk9 (Nat.le_refl _) HMH.o);clear hr9 hk9;obtain ⟨u0,u1,u2,u3,u4,u5,u6,u7,_⟩:=aG.o.cells;have f0:=aG.o.frozen 0;have f1:=aG.o.frozen 1;have f2:=aG.o.frozen 2;have f3:=aG.o.frozen 3;have f4:=aG.o.frozen 4;have f5:=aG.o.frozen 5;have f6:=aG.o.frozen 6;have f7:=aG.o.frozen 7))
 go_wp2_with fail
 first|go_end0|refine bodyPost_ret (results_none rfl _ _ _) rfl ?_
 exact ⟨rfl,aT,by rw [E.o,E2.o];exact MAt.laid aG.o jU.o,fG jT.o HPH.o _ _ _ _ _ _ _ _⟩
theorem IV (w:World) (lo mid hi p g2:Nat) (c:Pl.Mc) (x:Pl.In) (h:MAt w lo mid hi p g2 c) (G:Pl.GM c) (B:Pl.InB x) (h1:x.m=1→x.z=2) (hf:(c.read x.z x.m x.k x.e).fine=true) (ho:x.op=7) :
  Calls prog 86 #[.pointer (some ⟨p,0,none⟩),.agg (inX x)] w fun e w'=>e=.returned (.tuple #[])∧∃g3,MAt w' lo mid hi p g3 (c.two x)∧Since w lo hi g2 w' g3:=by
 have HG:=hide G
 have HI:=hide B
 have HV:=hide (Pl.di G B.z B.k0 B.k1 B.e0 B.e1 h1 B.n7)
 have HG1:=hide (G.read (m:=x.m) B.z B.k0 B.k1 B.e0 B.e1)
 have HOP:=hide ho
 clear ho
 have hl:=h.lo
 obtain ⟨X,hX,KA,HX,hbw,HHB,HGB,HPH,HPB,HMH,HS,HM⟩:=h.dL x
 obtain ⟨b0,b1,b2,b3,b4,b5,b6⟩:=aF HX.o
 rw [HOP.o] at b0
 clear h
 obtain ⟨gd,cd,ga,ca,g1,c1,c2,HB,HO⟩:=HM.o.op
 clear G B h1
 have HQ:Hid (el (c.read x.z x.m x.k x.e).r.xs x.r.toNat%Pl.top x.z=(c.read x.z x.m x.k x.e).low x.z x.r):=hide rfl
 have HQ0:=Pl.fJ HG1.o HI.o.z HI.o.r0 HI.o.r1
 obtain ⟨d,hd⟩:∃d,c.read x.z x.m x.k x.e=d:=⟨_,rfl⟩
 obtain ⟨v,hv⟩:∃v,c.aY x.z x.m x.k x.e=v:=⟨_,rfl⟩
 have E:Hid (c.two x=d.two' x (d.low x.z x.r) v):=hide (by unfold Pl.Mc.two;rw [hf,hd,hv];rfl)
 have HRD:=fun w9 h9=>jJ w9 lo mid hi p g2 c x.z x.m x.k x.e h9 HG.o HI.o.z HI.o.k0 HI.o.k1 HI.o.e0 HI.o.e1 HI.o.m0 HI.o.m1
 rw [hd] at hf HG1 HQ HQ0
 rw [hv] at HV
 simp only [hd,hv] at HRD
 clear hd hv
 obtain ⟨q,hq⟩:∃q,d.low x.z x.r=q:=⟨_,rfl⟩
 rw [hq] at E HQ HQ0
 clear hq
 have HF:=hide (Pl.bG HG1.o)
 have HVQ:=hide HQ0
 have E2:Hid (d.two' x q v=(d.aB (Pl.aQ x.z d.r.f (bits .xor .i64 q v))).put x.z x.r (bits .xor .i64 q v)):=hide (by unfold Pl.Mc.two';rw [HOP.o];rfl)
 have HVV:Hid (Pl.okv x.z (bits .xor .i64 q v)=true):=hide ((Pl.mV HVQ.o HV.o).2.2)
 have HGF:=hide (HG1.o.aB (v:=Pl.aQ x.z d.r.f (bits .xor .i64 q v)) (Pl.dX x.z d.r.f (bits .xor .i64 q v) HVV.o HF.o).1 (Pl.dX x.z d.r.f (bits .xor .i64 q v) HVV.o HF.o).2).g
 go_enter func86,ntmps86
 go_wp2_with (first|(go_at_call 72;refine (HRD _ HM.o).mono ?_;rintro e9 W_1 ⟨rfl,aT,hm9,hb9⟩;obtain ⟨bg,bY,bI⟩:=hb9.nx HX HHB HGB HS;clear hb9;have aW:=hide hm9;obtain ⟨bQ,bU,bT,bV,eu,eP,eG,aX,bu⟩:=hm9.op;obtain ⟨lT,kX,oD,kC,oC,oz,ou,oh⟩:=aX.o.c8;clear b0 b1 b2 b3 b4 b5 b6;obtain ⟨b0,b1,b2,b3,b4,b5,b6⟩:=aF bg.o;rw [HOP.o] at b0)|(go_at_call 41;refine st (bK _ lo mid hi p aT _ aW.o) ?_;rw [hf]))
 have HD:=hide (bu.o.any (ae (Kept.refl 0 0 W_1))).d
 have S1D:=cellsS (aX.o.any (ae (Kept.refl 0 0 W_1))) (bg.o.af (ae (Kept.refl 0 0 W_1)))
 go_region_held3 (fun w'=>w'.cell? ⟨p,0,none⟩=some (.slice (some ⟨bQ,0,none⟩) 4 bU)∧w'.cell? ⟨p,1,none⟩=some (.slice (some ⟨bT,0,none⟩) 4 bV)∧w'.cell? ⟨p,2,none⟩=some (iv d.r.o)∧w'.cell? ⟨p,3,none⟩=some (iv d.r.p)∧w'.cell? ⟨p,4,none⟩=some (iv d.r.f)∧w'.cell? ⟨p,5,none⟩=some (iv d.r.m)∧w'.cell? ⟨p,6,none⟩=some (.bool d.r.s)∧w'.cell? ⟨p,7,none⟩=some (.bool d.r.t)∧w'.cell? ⟨w.heap.size,1,none⟩=some (iv x.z)∧w'.cell? ⟨w.heap.size,2,none⟩=some (iv x.r)) (first|with_reducible exact S1D|with_reducible exact cellsS aN.o dM.o|go_keep) (first|(go_at_call 74;refine (wG _ bQ bU bT bV d.r x.z x.r HD.o HG1.o.g HI.o.z HI.o.r0 HI.o.r1).mono ?_;rw [HQ.o];rintro e9 W_2 ⟨rfl,hk9⟩;have K2:=hide ((ae (Kept.refl 0 0 W_1)).trans hk9);clear hk9;have gZ:=hide (aW.o.any K2.o);have aN:=hide (aX.o.any K2.o);have iq:=hide (bu.o.any K2.o);have dM:=hide (bg.o.af K2.o);have gX:=hide (bI.o.any K2.o);obtain ⟨xB,xA,xy,uN,sD,xx,xw,xu,rZ,rY,mM,mJ,mG,mF,mD,mi⟩:=aN.o.cells;clear rZ rY mM mJ mG mF mD mi;have yx:=aN.o.frozen 0;have yw:=aN.o.frozen 1;have yu:=aN.o.frozen 2;have vP:=aN.o.frozen 3;have tu:=aN.o.frozen 4;have yt:=aN.o.frozen 5;have yl:=aN.o.frozen 6;have yj:=aN.o.frozen 7;clear b0 b1 b2 b3 b4 b5 b6;obtain ⟨b0,b1,b2,b3,b4,b5,b6⟩:=aF dM.o;rw [HOP.o] at b0;clear lT kX oD kC oC oz ou oh))
 go_wp2_with ((go_at_call 76;refine st (gG _ HVV.o HF.o) ?_))
 have HBY:=hide ((aN.o.cF (Pl.aQ x.z d.r.f (bits .xor .i64 q v))).any (ae (Kept.refl 0 0 (W_2.setCell ⟨p,4,none⟩ (iv (Pl.aQ x.z d.r.f (bits .xor .i64 q v)))))))
 have HOY:=hide ((iq.o.own (ak _ p 4 (iv (Pl.aQ x.z d.r.f (bits .xor .i64 q v))))).any (ae (Kept.refl 0 0 (W_2.setCell ⟨p,4,none⟩ (iv (Pl.aQ x.z d.r.f (bits .xor .i64 q v)))))))
 have HSY:=hide ((gX.o.set p 4 (iv (Pl.aQ x.z d.r.f (bits .xor .i64 q v))) HPH.o).drew)
 have HXY:=hide ((dM.o.other p 4 (iv (Pl.aQ x.z d.r.f (bits .xor .i64 q v))) (by have:=HPB.o;omega)).af (ae (Kept.refl 0 0 (W_2.setCell ⟨p,4,none⟩ (iv (Pl.aQ x.z d.r.f (bits .xor .i64 q v)))))))
 have HRY:=hide (MO.reg (r:=(d.aB (Pl.aQ x.z d.r.f (bits .xor .i64 q v))).r) HOY.o)
 have HMY:Hid (mid≤(W_2.setCell ⟨p,4,none⟩ (iv (Pl.aQ x.z d.r.f (bits .xor .i64 q v)))).drew.heap.size):=hide (Nat.le_trans HMH.o HOY.o.hh)
 have HPM:=HOY.o.p0
 have HNM:Hid (¬(lo≤w.heap.size∧w.heap.size<mid)):=hide (by have:=HHB.o;have:=HMH.o;omega)
 have HNP:Hid (¬(p≤w.heap.size∧w.heap.size<p+1)):=hide (by have:=HPB.o;omega)
 have SYD:=cellsS HBY.o HXY.o
 go_region_held3 (fun w'=>w'.cell? ⟨p,0,none⟩=some (.slice (some ⟨bQ,0,none⟩) 4 bU)∧w'.cell? ⟨p,1,none⟩=some (.slice (some ⟨bT,0,none⟩) 4 bV)∧w'.cell? ⟨p,2,none⟩=some (iv (d.aB (Pl.aQ x.z d.r.f (bits .xor .i64 q v))).r.o)∧w'.cell? ⟨p,3,none⟩=some (iv (d.aB (Pl.aQ x.z d.r.f (bits .xor .i64 q v))).r.p)∧w'.cell? ⟨p,4,none⟩=some (iv (d.aB (Pl.aQ x.z d.r.f (bits .xor .i64 q v))).r.f)∧w'.cell? ⟨p,5,none⟩=some (iv (d.aB (Pl.aQ x.z d.r.f (bits .xor .i64 q v))).r.m)∧w'.cell? ⟨p,6,none⟩=some (.bool (d.aB (Pl.aQ x.z d.r.f (bits .xor .i64 q v))).r.s)∧w'.cell? ⟨p,7,none⟩=some (.bool (d.aB (Pl.aQ x.z d.r.f (bits .xor .i64 q v))).r.t)∧w'.cell? ⟨w.heap.size,1,none⟩=some (iv x.z)∧w'.cell? ⟨w.heap.size,2,none⟩=some (iv x.r)) (first|with_reducible exact SYD|with_reducible exact cellsS aG.o jd.o|exact cellsS (aG.o.laid (Pl.jr (d.aB (Pl.aQ x.z d.r.f (bits .xor .i64 q v))).r x.z x.r (bits .xor .i64 q v))) (Blk.kept jd.o (MB.jb _ _ _ _ _ _ _ _) HNP.o)|go_keep) (first|(go_at_call 79;refine (qH _ lo mid bQ bU bT bV (d.aB (Pl.aQ x.z d.r.f (bits .xor .i64 q v))).r x.z x.r (bits .xor .i64 q v) HRY.o HMY.o HGF.o HI.o.r0 HI.o.r1 HVV.o).mono ?_;unfold iK;rintro e9 W_9 ⟨rfl,hr9,hk9⟩;have jU:=hide (HOY.o.regs hr9 hk9);have aG:=hide (HBY.o.regs hk9 HPM);have jd:=hide (Blk.kept HXY.o hk9 HNM.o);have jT:=hide (HSY.o.ai hk9 (Nat.le_refl _) HMH.o);clear hr9 hk9;obtain ⟨u0,u1,u2,u3,u4,u5,u6,u7,_⟩:=aG.o.cells;have f0:=aG.o.frozen 0;have f1:=aG.o.frozen 1;have f2:=aG.o.frozen 2;have f3:=aG.o.frozen 3;have f4:=aG.o.frozen 4;have f5:=aG.o.frozen 5;have f6:=aG.o.frozen 6;have f7:=aG.o.frozen 7))
 go_wp2_with fail
 first|go_end0|refine bodyPost_ret (results_none rfl _ _ _) rfl ?_
 exact ⟨rfl,aT,by rw [E.o,E2.o];exact MAt.laid aG.o jU.o,fG jT.o HPH.o _ _ _ _ _ _ _ _⟩
theorem N9 (w:World) (lo mid hi p g2:Nat) (c:Pl.Mc) (x:Pl.In) (h:MAt w lo mid hi p g2 c) (G:Pl.GM c) (B:Pl.InB x) (h1:x.m=1→x.z=2) (hf:(c.read x.z x.m x.k x.e).fine=true) (ho:x.op=1) :
  Calls prog 86 #[.pointer (some ⟨p,0,none⟩),.agg (inX x)] w fun e w'=>e=.returned (.tuple #[])∧∃g3,MAt w' lo mid hi p g3 (c.two x)∧Since w lo hi g2 w' g3:=by
 have HG:=hide G
 have HI:=hide B
 have HV:=hide (Pl.di G B.z B.k0 B.k1 B.e0 B.e1 h1 B.n7)
 have HG1:=hide (G.read (m:=x.m) B.z B.k0 B.k1 B.e0 B.e1)
 have HOP:=hide ho
 clear ho
 have hl:=h.lo
 obtain ⟨X,hX,KA,HX,hbw,HHB,HGB,HPH,HPB,HMH,HS,HM⟩:=h.dL x
 obtain ⟨b0,b1,b2,b3,b4,b5,b6⟩:=aF HX.o
 rw [HOP.o] at b0
 clear h
 obtain ⟨gd,cd,ga,ca,g1,c1,c2,HB,HO⟩:=HM.o.op
 clear G B h1
 have HQ:Hid (el (c.read x.z x.m x.k x.e).r.xs x.r.toNat%Pl.top x.z=(c.read x.z x.m x.k x.e).low x.z x.r):=hide rfl
 have HQ0:=Pl.fJ HG1.o HI.o.z HI.o.r0 HI.o.r1
 obtain ⟨d,hd⟩:∃d,c.read x.z x.m x.k x.e=d:=⟨_,rfl⟩
 obtain ⟨v,hv⟩:∃v,c.aY x.z x.m x.k x.e=v:=⟨_,rfl⟩
 have E:Hid (c.two x=d.two' x (d.low x.z x.r) v):=hide (by unfold Pl.Mc.two;rw [hf,hd,hv];rfl)
 have HRD:=fun w9 h9=>jJ w9 lo mid hi p g2 c x.z x.m x.k x.e h9 HG.o HI.o.z HI.o.k0 HI.o.k1 HI.o.e0 HI.o.e1 HI.o.m0 HI.o.m1
 rw [hd] at hf HG1 HQ HQ0
 rw [hv] at HV
 simp only [hd,hv] at HRD
 clear hd hv
 obtain ⟨q,hq⟩:∃q,d.low x.z x.r=q:=⟨_,rfl⟩
 rw [hq] at E HQ HQ0
 clear hq
 have HF:=hide (Pl.bG HG1.o)
 have HVQ:=hide HQ0
 have E2:Hid (d.two' x q v=(d.aB (Pl.aQ x.z d.r.f (v))).put x.z x.r (v)):=hide (by unfold Pl.Mc.two';rw [HOP.o];rfl)
 have HVV:Hid (Pl.okv x.z (v)=true):=hide (HV.o)
 have HGF:=hide (HG1.o.aB (v:=Pl.aQ x.z d.r.f (v)) (Pl.dX x.z d.r.f (v) HVV.o HF.o).1 (Pl.dX x.z d.r.f (v) HVV.o HF.o).2).g
 go_enter func86,ntmps86
 go_wp2_with (first|(go_at_call 72;refine (HRD _ HM.o).mono ?_;rintro e9 W_1 ⟨rfl,aT,hm9,hb9⟩;obtain ⟨bg,bY,bI⟩:=hb9.nx HX HHB HGB HS;clear hb9;have aW:=hide hm9;obtain ⟨bQ,bU,bT,bV,eu,eP,eG,aX,bu⟩:=hm9.op;obtain ⟨lT,kX,oD,kC,oC,oz,ou,oh⟩:=aX.o.c8;clear b0 b1 b2 b3 b4 b5 b6;obtain ⟨b0,b1,b2,b3,b4,b5,b6⟩:=aF bg.o;rw [HOP.o] at b0)|(go_at_call 41;refine st (bK _ lo mid hi p aT _ aW.o) ?_;rw [hf]))
 have HD:=hide (bu.o.any (ae (Kept.refl 0 0 W_1))).d
 have S1D:=cellsS (aX.o.any (ae (Kept.refl 0 0 W_1))) (bg.o.af (ae (Kept.refl 0 0 W_1)))
 go_region_held3 (fun w'=>w'.cell? ⟨p,0,none⟩=some (.slice (some ⟨bQ,0,none⟩) 4 bU)∧w'.cell? ⟨p,1,none⟩=some (.slice (some ⟨bT,0,none⟩) 4 bV)∧w'.cell? ⟨p,2,none⟩=some (iv d.r.o)∧w'.cell? ⟨p,3,none⟩=some (iv d.r.p)∧w'.cell? ⟨p,4,none⟩=some (iv d.r.f)∧w'.cell? ⟨p,5,none⟩=some (iv d.r.m)∧w'.cell? ⟨p,6,none⟩=some (.bool d.r.s)∧w'.cell? ⟨p,7,none⟩=some (.bool d.r.t)∧w'.cell? ⟨w.heap.size,1,none⟩=some (iv x.z)∧w'.cell? ⟨w.heap.size,2,none⟩=some (iv x.r)) (first|with_reducible exact S1D|with_reducible exact cellsS aN.o dM.o|go_keep) (first|(go_at_call 74;refine (wG _ bQ bU bT bV d.r x.z x.r HD.o HG1.o.g HI.o.z HI.o.r0 HI.o.r1).mono ?_;rw [HQ.o];rintro e9 W_2 ⟨rfl,hk9⟩;have K2:=hide ((ae (Kept.refl 0 0 W_1)).trans hk9);clear hk9;have gZ:=hide (aW.o.any K2.o);have aN:=hide (aX.o.any K2.o);have iq:=hide (bu.o.any K2.o);have dM:=hide (bg.o.af K2.o);have gX:=hide (bI.o.any K2.o);obtain ⟨xB,xA,xy,uN,sD,xx,xw,xu,rZ,rY,mM,mJ,mG,mF,mD,mi⟩:=aN.o.cells;clear rZ rY mM mJ mG mF mD mi;have yx:=aN.o.frozen 0;have yw:=aN.o.frozen 1;have yu:=aN.o.frozen 2;have vP:=aN.o.frozen 3;have tu:=aN.o.frozen 4;have yt:=aN.o.frozen 5;have yl:=aN.o.frozen 6;have yj:=aN.o.frozen 7;clear b0 b1 b2 b3 b4 b5 b6;obtain ⟨b0,b1,b2,b3,b4,b5,b6⟩:=aF dM.o;rw [HOP.o] at b0;clear lT kX oD kC oC oz ou oh))
 go_wp2_with ((go_at_call 76;refine st (gG _ HVV.o HF.o) ?_))
 have HBY:=hide ((aN.o.cF (Pl.aQ x.z d.r.f (v))).any (ae (Kept.refl 0 0 (W_2.setCell ⟨p,4,none⟩ (iv (Pl.aQ x.z d.r.f (v)))))))
 have HOY:=hide ((iq.o.own (ak _ p 4 (iv (Pl.aQ x.z d.r.f (v))))).any (ae (Kept.refl 0 0 (W_2.setCell ⟨p,4,none⟩ (iv (Pl.aQ x.z d.r.f (v)))))))
 have HSY:=hide ((gX.o.set p 4 (iv (Pl.aQ x.z d.r.f (v))) HPH.o).drew)
 have HXY:=hide ((dM.o.other p 4 (iv (Pl.aQ x.z d.r.f (v))) (by have:=HPB.o;omega)).af (ae (Kept.refl 0 0 (W_2.setCell ⟨p,4,none⟩ (iv (Pl.aQ x.z d.r.f (v)))))))
 have HRY:=hide (MO.reg (r:=(d.aB (Pl.aQ x.z d.r.f (v))).r) HOY.o)
 have HMY:Hid (mid≤(W_2.setCell ⟨p,4,none⟩ (iv (Pl.aQ x.z d.r.f (v)))).drew.heap.size):=hide (Nat.le_trans HMH.o HOY.o.hh)
 have HPM:=HOY.o.p0
 have HNM:Hid (¬(lo≤w.heap.size∧w.heap.size<mid)):=hide (by have:=HHB.o;have:=HMH.o;omega)
 have HNP:Hid (¬(p≤w.heap.size∧w.heap.size<p+1)):=hide (by have:=HPB.o;omega)
 have SYD:=cellsS HBY.o HXY.o
 go_region_held3 (fun w'=>w'.cell? ⟨p,0,none⟩=some (.slice (some ⟨bQ,0,none⟩) 4 bU)∧w'.cell? ⟨p,1,none⟩=some (.slice (some ⟨bT,0,none⟩) 4 bV)∧w'.cell? ⟨p,2,none⟩=some (iv (d.aB (Pl.aQ x.z d.r.f (v))).r.o)∧w'.cell? ⟨p,3,none⟩=some (iv (d.aB (Pl.aQ x.z d.r.f (v))).r.p)∧w'.cell? ⟨p,4,none⟩=some (iv (d.aB (Pl.aQ x.z d.r.f (v))).r.f)∧w'.cell? ⟨p,5,none⟩=some (iv (d.aB (Pl.aQ x.z d.r.f (v))).r.m)∧w'.cell? ⟨p,6,none⟩=some (.bool (d.aB (Pl.aQ x.z d.r.f (v))).r.s)∧w'.cell? ⟨p,7,none⟩=some (.bool (d.aB (Pl.aQ x.z d.r.f (v))).r.t)∧w'.cell? ⟨w.heap.size,1,none⟩=some (iv x.z)∧w'.cell? ⟨w.heap.size,2,none⟩=some (iv x.r)) (first|with_reducible exact SYD|with_reducible exact cellsS aG.o jd.o|exact cellsS (aG.o.laid (Pl.jr (d.aB (Pl.aQ x.z d.r.f (v))).r x.z x.r (v))) (Blk.kept jd.o (MB.jb _ _ _ _ _ _ _ _) HNP.o)|go_keep) (first|(go_at_call 79;refine (qH _ lo mid bQ bU bT bV (d.aB (Pl.aQ x.z d.r.f (v))).r x.z x.r (v) HRY.o HMY.o HGF.o HI.o.r0 HI.o.r1 HVV.o).mono ?_;unfold iK;rintro e9 W_9 ⟨rfl,hr9,hk9⟩;have jU:=hide (HOY.o.regs hr9 hk9);have aG:=hide (HBY.o.regs hk9 HPM);have jd:=hide (Blk.kept HXY.o hk9 HNM.o);have jT:=hide (HSY.o.ai hk9 (Nat.le_refl _) HMH.o);clear hr9 hk9;obtain ⟨u0,u1,u2,u3,u4,u5,u6,u7,_⟩:=aG.o.cells;have f0:=aG.o.frozen 0;have f1:=aG.o.frozen 1;have f2:=aG.o.frozen 2;have f3:=aG.o.frozen 3;have f4:=aG.o.frozen 4;have f5:=aG.o.frozen 5;have f6:=aG.o.frozen 6;have f7:=aG.o.frozen 7))
 go_wp2_with fail
 first|go_end0|refine bodyPost_ret (results_none rfl _ _ _) rfl ?_
 exact ⟨rfl,aT,by rw [E.o,E2.o];exact MAt.laid aG.o jU.o,fG jT.o HPH.o _ _ _ _ _ _ _ _⟩
theorem Bf (w:World) (lo mid hi p g2:Nat) (c:Pl.Mc) (x:Pl.In) (h:MAt w lo mid hi p g2 c) (G:Pl.GM c) (B:Pl.InB x) (h1:x.m=1→x.z=2) (ho:x.op=1∨x.op=3∨x.op=4∨x.op=5∨x.op=6∨x.op=7∨x.op=8) :
  Calls prog 86 #[.pointer (some ⟨p,0,none⟩),.agg (inX x)] w fun e w'=>e=.returned (.tuple #[])∧∃g3,MAt w' lo mid hi p g3 (c.two x)∧Since w lo hi g2 w' g3:=by
 cases hf:(c.read x.z x.m x.k x.e).fine
 ·exact Ob w lo mid hi p g2 c x h G B h1 hf
 ·rcases ho with ho|ho|ho|ho|ho|ho|ho
  ·exact N9 w lo mid hi p g2 c x h G B h1 hf ho
  ·exact IZ w lo mid hi p g2 c x h G B h1 hf ho
  ·exact IW w lo mid hi p g2 c x h G B h1 hf ho
  ·exact IY w lo mid hi p g2 c x h G B h1 hf ho
  ·exact Oa w lo mid hi p g2 c x h G B h1 hf ho
  ·exact IV w lo mid hi p g2 c x h G B h1 hf ho
  ·exact IX w lo mid hi p g2 c x h G B h1 hf ho
theorem Jd (w:World) (lo mid hi p g2:Nat) (c:Pl.Mc) (x:Pl.In) (h:MAt w lo mid hi p g2 c) (G:Pl.GM c) (B:Pl.InB x) (hf:(c.read 2 x.m x.k x.e).fine=false) :
  Calls prog 82 #[.pointer (some ⟨p,0,none⟩),.agg (inX x)] w fun e w'=>e=.returned (.tuple #[])∧∃g3,MAt w' lo mid hi p g3 (c.product x)∧Since w lo hi g2 w' g3:=by
 have HG:=hide G
 have HI:=hide B
 have HE2:Pl.okv 2 x.e=true:=by have:=B.e0;have:=B.e1;simp [Pl.okv,Pl.top];omega
 have HV:=hide (Pl.di (z:=2) (m:=x.m) G (.inr rfl) B.k0 B.k1 B.e0 B.e1 (fun _=>rfl) (fun _=>HE2))
 clear HE2
 have HG1:=hide (G.read (z:=2) (m:=x.m) (.inr rfl) B.k0 B.k1 B.e0 B.e1)
 have hl:=h.lo
 obtain ⟨X,hX,KA,HX,hbw,HHB,HGB,HPH,HPB,HMH,HS,HM⟩:=h.dL x
 obtain ⟨b0,b1,b2,b3,b4,b5,b6⟩:=aF HX.o
 clear h
 obtain ⟨gd,cd,ga,ca,g1,c1,c2,HB,HO⟩:=HM.o.op
 clear G B
 have E:Hid (c.product x=c.read 2 x.m x.k x.e):=hide (by unfold Pl.Mc.product;rw [hf];rfl)
 go_enter func82,ntmps82
 go_wp2_with (first|(go_at_call 72;refine (jJ _ lo mid hi p g2 c 2 x.m x.k x.e HM.o HG.o (.inr rfl) HI.o.k0 HI.o.k1 HI.o.e0 HI.o.e1 HI.o.m0 HI.o.m1).mono ?_;rintro e9 W_1 ⟨rfl,aT,hm9,hb9⟩;obtain ⟨bg,bY,bI⟩:=hb9.nx HX HHB HGB HS;clear hb9;have aW:=hide hm9;obtain ⟨bQ,bU,bT,bV,eu,eP,eG,aX,bu⟩:=hm9.op;clear b0 b1 b2 b3 b4 b5 b6;obtain ⟨b0,b1,b2,b3,b4,b5,b6⟩:=aF bg.o)|(go_at_call 41;refine st (bK _ lo mid hi p aT _ aW.o) ?_;rw [hf]))
 first|go_end0|refine bodyPost_ret (results_none rfl _ _ _) rfl ?_
 exact ⟨rfl,aT,by rw [E.o];exact aW.o,bI.o⟩
theorem EY (w:World) (lo mid hi p g2:Nat) (c:Pl.Mc) (x:Pl.In) (h:MAt w lo mid hi p g2 c) (G:Pl.GM c) (B:Pl.InB x) (hf:(c.read 2 x.m x.k x.e).fine=true) (ho:x.op=16) :
  Calls prog 82 #[.pointer (some ⟨p,0,none⟩),.agg (inX x)] w fun e w'=>e=.returned (.tuple #[])∧∃g3,MAt w' lo mid hi p g3 (c.product x)∧Since w lo hi g2 w' g3:=by
 have HG:=hide G
 have HI:=hide B
 have HE2:Pl.okv 2 x.e=true:=by have:=B.e0;have:=B.e1;simp [Pl.okv,Pl.top];omega
 have HV:=hide (Pl.di (z:=2) (m:=x.m) G (.inr rfl) B.k0 B.k1 B.e0 B.e1 (fun _=>rfl) (fun _=>HE2))
 clear HE2
 have HG1:=hide (G.read (z:=2) (m:=x.m) (.inr rfl) B.k0 B.k1 B.e0 B.e1)
 have HOP:=hide ho
 clear ho
 have hl:=h.lo
 obtain ⟨X,hX,KA,HX,hbw,HHB,HGB,HPH,HPB,HMH,HS,HM⟩:=h.dL x
 obtain ⟨b0,b1,b2,b3,b4,b5,b6⟩:=aF HX.o
 rw [HOP.o] at b0
 clear h
 obtain ⟨gd,cd,ga,ca,g1,c1,c2,HB,HO⟩:=HM.o.op
 clear G B
 obtain ⟨d,hd⟩:∃d,c.read 2 x.m x.k x.e=d:=⟨_,rfl⟩
 obtain ⟨v,hv⟩:∃v,c.aY 2 x.m x.k x.e=v:=⟨_,rfl⟩
 have E:Hid (c.product x=d.jm x v):=hide (by unfold Pl.Mc.product;rw [hf,hd,hv];rfl)
 have HRD:=fun w9 h9=>jJ w9 lo mid hi p g2 c 2 x.m x.k x.e h9 HG.o (.inr rfl) HI.o.k0 HI.o.k1 HI.o.e0 HI.o.e1 HI.o.m0 HI.o.m1
 rw [hd] at hf HG1
 rw [hv] at HV
 simp only [hd,hv] at HRD
 clear hd hv
 have r0:=HI.o.r0
 have r1:=HI.o.r1
 have r4:x.r<4:=by omega
 have HR4:Hid (x.r.toNat<4):=hide (by omega)
 obtain ⟨D,hD⟩:∃D,el d.r.xs x.r.toNat=D:=⟨_,rfl⟩
 have hDb:=HG1.o.g.dw x.r.toNat HR4.o
 rw [hD] at hDb
 obtain ⟨hD0,hD1⟩:=hDb
 have HDD:=hide hD
 clear hD
 have hvb:=Pl.aP HV.o
 have hv0:0≤v:=hvb.2.1
 have hv1:v≤65535:=by have:=hvb.2.2;simp [Pl.top] at this;omega
 clear hvb
 obtain ⟨Q,hQ⟩:∃Q,D*v=Q:=⟨_,rfl⟩
 have hQ0:0≤D*v:=Int.mul_nonneg hD0 hv0
 have hQ1:D*v≤65535*65535:=Int.mul_le_mul hD1 hv1 hv0 (by decide)
 have E2:Hid (d.jm x v=d.IK x Q):=hide (by unfold Pl.Mc.jm;rw [HOP.o,HDD.o,hQ];rfl)
 have HVQ:Hid (Pl.okv 2 (Q%65536)=true):=hide (by simp [Pl.okv,Pl.top];omega)
 have hm:=lY Q
 have hg9:(decide (65535<Q))=decide (65535<Q):=rfl
 go_enter func82,ntmps82
 go_wp2_with (first|(go_at_call 72;refine (HRD _ HM.o).mono ?_;rintro e9 W_1 ⟨rfl,aT,hm9,hb9⟩;obtain ⟨bg,bY,bI⟩:=hb9.nx HX HHB HGB HS;clear hb9;have aW:=hide hm9;obtain ⟨bQ,bU,bT,bV,eu,eP,eG,aX,bu⟩:=hm9.op;have lT:=aX.o.k0;clear b0 b1 b2 b3 b4 b5 b6;obtain ⟨b0,b1,b2,b3,b4,b5,b6⟩:=aF bg.o;rw [HOP.o] at b0;obtain ⟨hc,_⟩:=jH bu.o.d x.r.toNat (by rw [HG1.o.g.d4];exact HR4.o);rw [HDD.o] at hc)|(go_at_call 41;refine st (bK _ lo mid hi p aT _ aW.o) ?_;rw [hf]))
 go_region
 have HMD:=hide (aW.o.any (ae (Kept.refl 0 0 W_1)))
 have HX_D:=hide (bg.o.af (ae (Kept.refl 0 0 W_1)))
 have HGB_D:=bY
 have HS_D:=hide bI.o.drew
 go_wp2_with (go_at_call 126;refine (Dw _ lo mid hi p aT d 2 x.r (Q%65536) HMD.o HG1.o HI.o.r0 HI.o.r1 HVQ.o).mono ?_;rintro e9 W_2 ⟨rfl,kW,hm9,hb9⟩;obtain ⟨dM,ql,gX⟩:=hb9.nx HX_D HHB HGB_D HS_D;clear hb9;have gZ:=hide hm9;obtain ⟨wH,wK,wI,wL,yc,yK,yJ,aN,iq⟩:=hm9.op;have sD:=aN.o.k4;have tu:=aN.o.frozen 4;clear b0 b1 b2 b3 b4 b5 b6;obtain ⟨b0,b1,b2,b3,b4,b5,b6⟩:=aF dM.o)
 go_region_with (go_at_call 119;refine st (dC _ _ _) ?_)
 all_goals
  go_wp2_with fail
  first|go_end0|refine bodyPost_ret (results_none rfl _ _ _) rfl ?_
  exact ⟨rfl,kW,by rw [E.o,E2.o];exact (gZ.o.cF _).drew,(gX.o.set p 4 _ HPH.o).drew⟩
theorem Bi (w:World) (lo mid hi p g2:Nat) (c:Pl.Mc) (x:Pl.In) (h:MAt w lo mid hi p g2 c) (G:Pl.GM c) (B:Pl.InB x) (hf:(c.read 2 x.m x.k x.e).fine=true) (ho:x.op=17) (hq:(c.aY 2 x.m x.k x.e==0)=true) :
  Calls prog 82 #[.pointer (some ⟨p,0,none⟩),.agg (inX x)] w fun e w'=>e=.returned (.tuple #[])∧∃g3,MAt w' lo mid hi p g3 (c.product x)∧Since w lo hi g2 w' g3:=by
 have HG:=hide G
 have HI:=hide B
 have HE2:Pl.okv 2 x.e=true:=by have:=B.e0;have:=B.e1;simp [Pl.okv,Pl.top];omega
 have HV:=hide (Pl.di (z:=2) (m:=x.m) G (.inr rfl) B.k0 B.k1 B.e0 B.e1 (fun _=>rfl) (fun _=>HE2))
 clear HE2
 have HG1:=hide (G.read (z:=2) (m:=x.m) (.inr rfl) B.k0 B.k1 B.e0 B.e1)
 have HOP:=hide ho
 clear ho
 have hl:=h.lo
 obtain ⟨X,hX,KA,HX,hbw,HHB,HGB,HPH,HPB,HMH,HS,HM⟩:=h.dL x
 obtain ⟨b0,b1,b2,b3,b4,b5,b6⟩:=aF HX.o
 rw [HOP.o] at b0
 clear h
 obtain ⟨gd,cd,ga,ca,g1,c1,c2,HB,HO⟩:=HM.o.op
 clear G B
 obtain ⟨d,hd⟩:∃d,c.read 2 x.m x.k x.e=d:=⟨_,rfl⟩
 obtain ⟨v,hv⟩:∃v,c.aY 2 x.m x.k x.e=v:=⟨_,rfl⟩
 have E:Hid (c.product x=d.jm x v):=hide (by unfold Pl.Mc.product;rw [hf,hd,hv];rfl)
 have HRD:=fun w9 h9=>jJ w9 lo mid hi p g2 c 2 x.m x.k x.e h9 HG.o (.inr rfl) HI.o.k0 HI.o.k1 HI.o.e0 HI.o.e1 HI.o.m0 HI.o.m1
 rw [hd] at hf HG1
 rw [hv] at HV hq
 simp only [hd,hv] at HRD
 clear hd hv
 have r0:=HI.o.r0
 have r1:=HI.o.r1
 have r4:x.r<4:=by omega
 have HR4:Hid (x.r.toNat<4):=hide (by omega)
 obtain ⟨D,hD⟩:∃D,el d.r.xs x.r.toNat=D:=⟨_,rfl⟩
 have hDb:=HG1.o.g.dw x.r.toNat HR4.o
 rw [hD] at hDb
 obtain ⟨hD0,hD1⟩:=hDb
 have HDD:=hide hD
 clear hD
 have hvb:=Pl.aP HV.o
 have hv0:0≤v:=hvb.2.1
 have hv1:v≤65535:=by have:=hvb.2.2;simp [Pl.top] at this;omega
 clear hvb
 have E2:Hid (d.jm x v=d.raise 5):=hide (by unfold Pl.Mc.jm;rw [HOP.o,hq];rfl)
 go_enter func82,ntmps82
 go_wp2_with (first|(go_at_call 72;refine (HRD _ HM.o).mono ?_;rintro e9 W_1 ⟨rfl,aT,hm9,hb9⟩;obtain ⟨bg,bY,bI⟩:=hb9.nx HX HHB HGB HS;clear hb9;have aW:=hide hm9;obtain ⟨bQ,bU,bT,bV,eu,eP,eG,aX,bu⟩:=hm9.op;have lT:=aX.o.k0;clear b0 b1 b2 b3 b4 b5 b6;obtain ⟨b0,b1,b2,b3,b4,b5,b6⟩:=aF bg.o;rw [HOP.o] at b0;obtain ⟨hc,_⟩:=jH bu.o.d x.r.toNat (by rw [HG1.o.g.d4];exact HR4.o);rw [HDD.o] at hc)|(go_at_call 41;refine st (bK _ lo mid hi p aT _ aW.o) ?_;rw [hf]))
 go_region
 have HMD:=hide (aW.o.any (ae (Kept.refl 0 0 W_1)))
 have HX_D:=hide (bg.o.af (ae (Kept.refl 0 0 W_1)))
 have HGB_D:=bY
 have HS_D:=hide bI.o.drew
 go_wp2_with (go_at_call 124;refine (Jc _ lo mid hi p aT d 5 HMD.o).mono ?_;rintro e9 W_2 ⟨rfl,kW,hm9,hb9⟩;obtain ⟨dM,ql,gX⟩:=hb9.nx HX_D HHB HGB_D HS_D;clear hb9;have gZ:=hide hm9;obtain ⟨wH,wK,wI,wL,yc,yK,yJ,aN,iq⟩:=hm9.op;clear b0 b1 b2 b3 b4 b5 b6;obtain ⟨b0,b1,b2,b3,b4,b5,b6⟩:=aF dM.o;rw [HOP.o] at b0)
 first|go_end0|refine bodyPost_ret (results_none rfl _ _ _) rfl ?_
 exact ⟨rfl,kW,by rw [E.o,E2.o];exact gZ.o,gX.o⟩
theorem EZ (w:World) (lo mid hi p g2:Nat) (c:Pl.Mc) (x:Pl.In) (h:MAt w lo mid hi p g2 c) (G:Pl.GM c) (B:Pl.InB x) (hf:(c.read 2 x.m x.k x.e).fine=true) (ho:x.op=17) (hq:(c.aY 2 x.m x.k x.e==0)=false) :
  Calls prog 82 #[.pointer (some ⟨p,0,none⟩),.agg (inX x)] w fun e w'=>e=.returned (.tuple #[])∧∃g3,MAt w' lo mid hi p g3 (c.product x)∧Since w lo hi g2 w' g3:=by
 have HG:=hide G
 have HI:=hide B
 have HE2:Pl.okv 2 x.e=true:=by have:=B.e0;have:=B.e1;simp [Pl.okv,Pl.top];omega
 have HV:=hide (Pl.di (z:=2) (m:=x.m) G (.inr rfl) B.k0 B.k1 B.e0 B.e1 (fun _=>rfl) (fun _=>HE2))
 clear HE2
 have HG1:=hide (G.read (z:=2) (m:=x.m) (.inr rfl) B.k0 B.k1 B.e0 B.e1)
 have HOP:=hide ho
 clear ho
 have hl:=h.lo
 obtain ⟨X,hX,KA,HX,hbw,HHB,HGB,HPH,HPB,HMH,HS,HM⟩:=h.dL x
 obtain ⟨b0,b1,b2,b3,b4,b5,b6⟩:=aF HX.o
 rw [HOP.o] at b0
 clear h
 obtain ⟨gd,cd,ga,ca,g1,c1,c2,HB,HO⟩:=HM.o.op
 clear G B
 obtain ⟨d,hd⟩:∃d,c.read 2 x.m x.k x.e=d:=⟨_,rfl⟩
 obtain ⟨v,hv⟩:∃v,c.aY 2 x.m x.k x.e=v:=⟨_,rfl⟩
 have E:Hid (c.product x=d.jm x v):=hide (by unfold Pl.Mc.product;rw [hf,hd,hv];rfl)
 have HRD:=fun w9 h9=>jJ w9 lo mid hi p g2 c 2 x.m x.k x.e h9 HG.o (.inr rfl) HI.o.k0 HI.o.k1 HI.o.e0 HI.o.e1 HI.o.m0 HI.o.m1
 rw [hd] at hf HG1
 rw [hv] at HV hq
 simp only [hd,hv] at HRD
 clear hd hv
 have r0:=HI.o.r0
 have r1:=HI.o.r1
 have r4:x.r<4:=by omega
 have HR4:Hid (x.r.toNat<4):=hide (by omega)
 obtain ⟨D,hD⟩:∃D,el d.r.xs x.r.toNat=D:=⟨_,rfl⟩
 have hDb:=HG1.o.g.dw x.r.toNat HR4.o
 rw [hD] at hDb
 obtain ⟨hD0,hD1⟩:=hDb
 have HDD:=hide hD
 clear hD
 have hvb:=Pl.aP HV.o
 have hv0:0≤v:=hvb.2.1
 have hv1:v≤65535:=by have:=hvb.2.2;simp [Pl.top] at this;omega
 clear hvb
 have E2:Hid (d.jm x v=d.data 2 x.r (D/v)):=hide (by unfold Pl.Mc.jm;rw [HOP.o,hq,HDD.o];rfl)
 have hvp:0<v:=by simp at hq;omega
 have hdiv:D.tdiv v=D/v:=Int.tdiv_eq_ediv_of_nonneg hD0
 have hd0:0≤D/v:=Int.ediv_nonneg hD0 hv0
 have hd1:D/v≤65535:=Int.le_trans (Int.ediv_le_self v hD0) hD1
 have HVQ:Hid (Pl.okv 2 (D/v)=true):=hide (by generalize D/v=N at hd0 hd1;simp [Pl.okv,Pl.top];omega)
 go_enter func82,ntmps82
 go_wp2_with (first|(go_at_call 72;refine (HRD _ HM.o).mono ?_;rintro e9 W_1 ⟨rfl,aT,hm9,hb9⟩;obtain ⟨bg,bY,bI⟩:=hb9.nx HX HHB HGB HS;clear hb9;have aW:=hide hm9;obtain ⟨bQ,bU,bT,bV,eu,eP,eG,aX,bu⟩:=hm9.op;have lT:=aX.o.k0;clear b0 b1 b2 b3 b4 b5 b6;obtain ⟨b0,b1,b2,b3,b4,b5,b6⟩:=aF bg.o;rw [HOP.o] at b0;obtain ⟨hc,_⟩:=jH bu.o.d x.r.toNat (by rw [HG1.o.g.d4];exact HR4.o);rw [HDD.o] at hc)|(go_at_call 41;refine st (bK _ lo mid hi p aT _ aW.o) ?_;rw [hf]))
 go_region
 have HMD:=hide ((aW.o.any (ae (Kept.refl 0 0 W_1))).any (ae (Kept.refl 0 0 W_1.drew)))
 have HX_D:=hide ((bg.o.af (ae (Kept.refl 0 0 W_1))).af (ae (Kept.refl 0 0 W_1.drew)))
 have HGB_D:=bY
 have HS_D:=hide bI.o.drew.drew
 go_wp2_with fail
 go_region_with (go_at_call 126;refine (Dw _ lo mid hi p aT d 2 x.r (D/v) HMD.o HG1.o HI.o.r0 HI.o.r1 HVQ.o).mono ?_;rintro e9 W_2 ⟨rfl,kW,hm9,hb9⟩;obtain ⟨dM,ql,gX⟩:=hb9.nx HX_D HHB HGB_D HS_D;clear hb9;have gZ:=hide hm9;obtain ⟨wH,wK,wI,wL,yc,yK,yJ,aN,iq⟩:=hm9.op;clear b0 b1 b2 b3 b4 b5 b6;obtain ⟨b0,b1,b2,b3,b4,b5,b6⟩:=aF dM.o;rw [HOP.o] at b0)
 all_goals
  go_wp2_with fail
  first|go_end0|refine bodyPost_ret (results_none rfl _ _ _) rfl ?_
  exact ⟨rfl,kW,by rw [E.o,E2.o];exact gZ.o,gX.o⟩
theorem zy (w:World) (lo mid hi p g2:Nat) (c:Pl.Mc) (x:Pl.In) (h:MAt w lo mid hi p g2 c) (G:Pl.GM c) (B:Pl.InB x) (ho:x.op=16∨x.op=17) :
  Calls prog 82 #[.pointer (some ⟨p,0,none⟩),.agg (inX x)] w fun e w'=>e=.returned (.tuple #[])∧∃g3,MAt w' lo mid hi p g3 (c.product x)∧Since w lo hi g2 w' g3:=by
 cases hf:(c.read 2 x.m x.k x.e).fine
 ·exact Jd w lo mid hi p g2 c x h G B hf
 ·rcases ho with ho|ho
  ·exact EY w lo mid hi p g2 c x h G B hf ho
  ·cases hq:(c.aY 2 x.m x.k x.e==0)
   ·exact EZ w lo mid hi p g2 c x h G B hf ho hq
   ·exact Bi w lo mid hi p g2 c x h G B hf ho hq
theorem Oc (w:World) (lo mid hi p g2:Nat) (c:Pl.Mc) (x:Pl.In) (h:MAt w lo mid hi p g2 c) (G:Pl.GM c) (B:Pl.InB x) (hm:x.m=0∨x.m=2∨x.m=3∨x.m=4∨x.m=5∨x.m=6) (hs:(x.s==0)=false) (hf:(c.read x.z x.m x.k x.e).fine=false) :
  Calls prog 77 #[.pointer (some ⟨p,0,none⟩),.agg (inX x)] w fun e w'=>e=.returned (.tuple #[])∧∃g3,MAt w' lo mid hi p g3 (c.one x)∧Since w lo hi g2 w' g3:=by
 have HG:=hide G
 have HI:=hide B
 have E:Hid (c.one x=c.read x.z x.m x.k x.e):=hide (by unfold Pl.Mc.one;rw [hs,hf];rfl)
 have hl:=h.lo
 obtain ⟨X,hX,KA,HX,hbw,HHB,HGB,HPH,HPB,HMH,HS,HM⟩:=h.dL x
 obtain ⟨b0,b1,b2,b3,b4,b5,b6⟩:=aF HX.o
 clear h
 obtain ⟨gd,cd,ga,ca,g1,c1,c2,HB,HO⟩:=HM.o.op
 clear G B hm
 go_enter func77,ntmps77
 go_wp2_with (first|(go_at_call 72;refine (jJ _ lo mid hi p g2 c x.z x.m x.k x.e HM.o HG.o HI.o.z HI.o.k0 HI.o.k1 HI.o.e0 HI.o.e1 HI.o.m0 HI.o.m1).mono ?_;rintro e9 W_1 ⟨rfl,aT,hm9,hb9⟩;obtain ⟨bg,bY,bI⟩:=hb9.nx HX HHB HGB HS;clear hb9;have aW:=hide hm9;obtain ⟨bQ,bU,bT,bV,eu,eP,eG,aX,bu⟩:=hm9.op;clear b0 b1 b2 b3 b4 b5 b6;obtain ⟨b0,b1,b2,b3,b4,b5,b6⟩:=aF bg.o)|(go_at_call 41;refine st (bK _ lo mid hi p aT _ aW.o) ?_;rw [hf]))
 first|go_end0|refine bodyPost_ret (results_none rfl _ _ _) rfl ?_
 exact ⟨rfl,aT,by rw [E.o];exact aW.o,bI.o⟩
theorem Fa (w:World) (lo mid hi p g2:Nat) (c:Pl.Mc) (x:Pl.In) (h:MAt w lo mid hi p g2 c) (G:Pl.GM c) (B:Pl.InB x) (hm:x.m=0∨x.m=2∨x.m=3∨x.m=4∨x.m=5∨x.m=6) (hs:x.s=3) (hf:(c.read x.z x.m x.k x.e).fine=true) :
  Calls prog 77 #[.pointer (some ⟨p,0,none⟩),.agg (inX x)] w fun e w'=>e=.returned (.tuple #[])∧∃g3,MAt w' lo mid hi p g3 (c.one x)∧Since w lo hi g2 w' g3:=by
 have HG:=hide G
 have HI:=hide B
 have HMM:=hide hm
 have HSU:=hide hs
 clear hs
 have hl:=h.lo
 obtain ⟨X,hX,KA,HX,hbw,HHB,HGB,HPH,HPB,HMH,HS,HM⟩:=h.dL x
 obtain ⟨b0,b1,b2,b3,b4,b5,b6⟩:=aF HX.o
 rw [HSU.o] at b6
 clear h
 obtain ⟨gd,cd,ga,ca,g1,c1,c2,HB,HO⟩:=HM.o.op
 clear G B hm
 have HV:=hide (Pl.di (m:=x.m) HG.o HI.o.z HI.o.k0 HI.o.k1 HI.o.e0 HI.o.e1 (fun q=>absurd q (by have:=HMM.o;omega)) HI.o.n7)
 have HG1:=hide (HG.o.read (m:=x.m) HI.o.z HI.o.k0 HI.o.k1 HI.o.e0 HI.o.e1)
 have HFR:=Pl.xG c x.z x.m x.k x.e
 have HAA:0≤c.readA x.z x.m x.k x.e∧c.readA x.z x.m x.k x.e≤65535:=by
  unfold Pl.Mc.readA
  cases Pl.Mc.gI x.m
  ·exact Pl.iM HG.o.g HI.o.k0 HI.o.k1 HI.o.e0 HI.o.e1
  ·exact ⟨Int.le_refl 0,(by decide:(0:Int)≤65535)⟩
 have HRD:=fun w9 h9=>jJ w9 lo mid hi p g2 c x.z x.m x.k x.e h9 HG.o HI.o.z HI.o.k0 HI.o.k1 HI.o.e0 HI.o.e1 HI.o.m0 HI.o.m1
 obtain ⟨d,hd⟩:∃d,c.read x.z x.m x.k x.e=d:=⟨_,rfl⟩
 obtain ⟨v,hv⟩:∃v,c.aY x.z x.m x.k x.e=v:=⟨_,rfl⟩
 obtain ⟨a,hA⟩:∃a,c.readA x.z x.m x.k x.e=a:=⟨_,rfl⟩
 have E:Hid (c.one x=c.one' d x a v):=hide (by unfold Pl.Mc.one;rw [HSU.o,hf,hd,hv,hA];rfl)
 rw [hd] at hf HG1 HFR
 rw [hv] at HV
 rw [hA] at HAA
 simp only [hd,hv,hA] at HRD
 clear hd hv hA
 have HFE:=hide HFR
 have HA0:=hide HAA.1
 have HA1:=hide HAA.2
 have HF:=hide (Pl.bG HG1.o)
 clear HFR HAA
 have E2:Hid (c.one' d x a v=d.aB (Pl.aQ x.z d.r.f v)):=hide (by unfold Pl.Mc.one';rw [HSU.o,HFE.o];rfl)
 go_enter func77,ntmps77
 go_wp2_with (first|(go_at_call 72;refine (HRD _ HM.o).mono ?_;rintro e9 W_1 ⟨rfl,aT,hm9,hb9⟩;obtain ⟨bg,bY,bI⟩:=hb9.nx HX HHB HGB HS;clear hb9;have aW:=hide hm9;obtain ⟨bQ,bU,bT,bV,eu,eP,eG,aX,bu⟩:=hm9.op;obtain ⟨lT,kX,oD,kC,oC,oz,ou,oh⟩:=aX.o.c8;clear b0 b1 b2 b3 b4 b5 b6;obtain ⟨b0,b1,b2,b3,b4,b5,b6⟩:=aF bg.o;rw [HSU.o] at b6)|(go_at_call 41;refine st (bK _ lo mid hi p aT _ aW.o) ?_;rw [hf]))
 have KD:=hide (ae (Kept.refl 0 0 W_1))
 have HM_D:=hide (aW.o.any KD.o)
 have HB_D:=hide (aX.o.any KD.o)
 have HO_D:=hide (bu.o.any KD.o)
 have HX_D:=hide (bg.o.af KD.o)
 have HS_D:=hide (bI.o.any KD.o)
 obtain ⟨t0_D,t1_D,t2_D,t3_D,t4_D,t5_D,t6_D,t7_D,t8_D,t9_D,t10_D,t11_D,t12_D,t13_D,t14_D,t15_D⟩:=HB_D.o.cells
 clear t0_D t1_D t2_D t3_D t5_D t6_D t7_D t8_D t9_D t10_D t11_D t12_D t13_D t14_D t15_D
 have f4_D:=HB_D.o.frozen 4
 clear b0 b1 b2 b3 b4 b5 b6
 obtain ⟨b0,b1,b2,b3,b4,b5,b6⟩:=aF HX_D.o
 rw [HSU.o] at b6
 have HGB_D:=bY
 have SD:=cellsS HB_D.o HX_D.o
 go_region_held3 (fun w'=>w'.cell? ⟨p,0,none⟩=some (.slice (some ⟨bQ,0,none⟩) 4 bU)∧w'.cell? ⟨p,1,none⟩=some (.slice (some ⟨bT,0,none⟩) 4 bV)∧w'.cell? ⟨p,2,none⟩=some (iv d.r.o)∧w'.cell? ⟨p,3,none⟩=some (iv d.r.p)∧w'.cell? ⟨p,4,none⟩=some (iv d.r.f)∧w'.cell? ⟨p,5,none⟩=some (iv d.r.m)∧w'.cell? ⟨p,6,none⟩=some (.bool d.r.s)∧w'.cell? ⟨p,7,none⟩=some (.bool d.r.t)∧w'.cell? ⟨w.heap.size,1,none⟩=some (iv x.z)∧w'.cell? ⟨w.heap.size,2,none⟩=some (iv x.r)) (first|with_reducible exact SD|go_keep) (first|(go_at_call 76;refine st (gG (v:=v) _ HV.o HF.o) ?_))
 go_wp2_with fail
 first|go_end0|refine bodyPost_ret (results_none rfl _ _ _) rfl ?_
 exact ⟨rfl,aT,by rw [E.o,E2.o];exact HM_D.o.cF _,HS_D.o.set p 4 _ HPH.o⟩
theorem Jf (w:World) (lo mid hi p g2:Nat) (c:Pl.Mc) (x:Pl.In) (h:MAt w lo mid hi p g2 c) (G:Pl.GM c) (B:Pl.InB x) (hm:x.m=0∨x.m=2∨x.m=3∨x.m=4∨x.m=5∨x.m=6) (hs:x.s=1) (hf:(c.read x.z x.m x.k x.e).fine=true) :
  Calls prog 77 #[.pointer (some ⟨p,0,none⟩),.agg (inX x)] w fun e w'=>e=.returned (.tuple #[])∧∃g3,MAt w' lo mid hi p g3 (c.one x)∧Since w lo hi g2 w' g3:=by
 have HG:=hide G
 have HI:=hide B
 have HMM:=hide hm
 have HSU:=hide hs
 clear hs
 have hl:=h.lo
 obtain ⟨X,hX,KA,HX,hbw,HHB,HGB,HPH,HPB,HMH,HS,HM⟩:=h.dL x
 obtain ⟨b0,b1,b2,b3,b4,b5,b6⟩:=aF HX.o
 rw [HSU.o] at b6
 clear h
 obtain ⟨gd,cd,ga,ca,g1,c1,c2,HB,HO⟩:=HM.o.op
 clear G B hm
 have HV:=hide (Pl.di (m:=x.m) HG.o HI.o.z HI.o.k0 HI.o.k1 HI.o.e0 HI.o.e1 (fun q=>absurd q (by have:=HMM.o;omega)) HI.o.n7)
 have HG1:=hide (HG.o.read (m:=x.m) HI.o.z HI.o.k0 HI.o.k1 HI.o.e0 HI.o.e1)
 have HFR:=Pl.xG c x.z x.m x.k x.e
 have HAA:0≤c.readA x.z x.m x.k x.e∧c.readA x.z x.m x.k x.e≤65535:=by
  unfold Pl.Mc.readA
  cases Pl.Mc.gI x.m
  ·exact Pl.iM HG.o.g HI.o.k0 HI.o.k1 HI.o.e0 HI.o.e1
  ·exact ⟨Int.le_refl 0,(by decide:(0:Int)≤65535)⟩
 have HRD:=fun w9 h9=>jJ w9 lo mid hi p g2 c x.z x.m x.k x.e h9 HG.o HI.o.z HI.o.k0 HI.o.k1 HI.o.e0 HI.o.e1 HI.o.m0 HI.o.m1
 obtain ⟨d,hd⟩:∃d,c.read x.z x.m x.k x.e=d:=⟨_,rfl⟩
 obtain ⟨v,hv⟩:∃v,c.aY x.z x.m x.k x.e=v:=⟨_,rfl⟩
 obtain ⟨a,hA⟩:∃a,c.readA x.z x.m x.k x.e=a:=⟨_,rfl⟩
 have E:Hid (c.one x=c.one' d x a v):=hide (by unfold Pl.Mc.one;rw [HSU.o,hf,hd,hv,hA];rfl)
 rw [hd] at hf HG1 HFR
 rw [hv] at HV
 rw [hA] at HAA
 simp only [hd,hv,hA] at HRD
 clear hd hv hA
 have HFE:=hide HFR
 have HA0:=hide HAA.1
 have HA1:=hide HAA.2
 have HF:=hide (Pl.bG HG1.o)
 clear HFR HAA
 have E2:Hid (c.one' d x a v=(d.write x.z x.m x.k a (Pl.kR x.z 0 0 v)).aB (Pl.gz x.z 0 0 v)):=hide (by unfold Pl.Mc.one';rw [HSU.o];rfl)
 have HZ0:Hid (Pl.okv x.z 0=true):=hide (by rcases HI.o.z with q|q<;>rw [q]<;>decide)
 have HVV:Hid (Pl.okv x.z (Pl.kR x.z 0 0 v)=true):=hide (Pl.mQ HI.o.z)
 go_enter func77,ntmps77
 go_wp2_with (first|(go_at_call 72;refine (HRD _ HM.o).mono ?_;rintro e9 W_1 ⟨rfl,aT,hm9,hb9⟩;obtain ⟨bg,bY,bI⟩:=hb9.nx HX HHB HGB HS;clear hb9;have aW:=hide hm9;obtain ⟨bQ,bU,bT,bV,eu,eP,eG,aX,bu⟩:=hm9.op;obtain ⟨lT,kX,oD,kC,oC,oz,ou,oh⟩:=aX.o.c8;clear b0 b1 b2 b3 b4 b5 b6;obtain ⟨b0,b1,b2,b3,b4,b5,b6⟩:=aF bg.o;rw [HSU.o] at b6)|(go_at_call 41;refine st (bK _ lo mid hi p aT _ aW.o) ?_;rw [hf]))
 have KD:=hide (ae (Kept.refl 0 0 W_1))
 have HM_D:=hide (aW.o.any KD.o)
 have HB_D:=hide (aX.o.any KD.o)
 have HO_D:=hide (bu.o.any KD.o)
 have HX_D:=hide (bg.o.af KD.o)
 have HS_D:=hide (bI.o.any KD.o)
 obtain ⟨t0_D,t1_D,t2_D,t3_D,t4_D,t5_D,t6_D,t7_D,t8_D,t9_D,t10_D,t11_D,t12_D,t13_D,t14_D,t15_D⟩:=HB_D.o.cells
 clear t0_D t1_D t2_D t3_D t5_D t6_D t7_D t8_D t9_D t10_D t11_D t12_D t13_D t14_D t15_D
 have f4_D:=HB_D.o.frozen 4
 clear b0 b1 b2 b3 b4 b5 b6
 obtain ⟨b0,b1,b2,b3,b4,b5,b6⟩:=aF HX_D.o
 rw [HSU.o] at b6
 have HGB_D:=bY
 have SD:=cellsS HB_D.o HX_D.o
 go_region_held3 (fun w'=>w'.cell? ⟨p,0,none⟩=some (.slice (some ⟨bQ,0,none⟩) 4 bU)∧w'.cell? ⟨p,1,none⟩=some (.slice (some ⟨bT,0,none⟩) 4 bV)∧w'.cell? ⟨p,2,none⟩=some (iv d.r.o)∧w'.cell? ⟨p,3,none⟩=some (iv d.r.p)∧w'.cell? ⟨p,4,none⟩=some (iv d.r.f)∧w'.cell? ⟨p,5,none⟩=some (iv d.r.m)∧w'.cell? ⟨p,6,none⟩=some (.bool d.r.s)∧w'.cell? ⟨p,7,none⟩=some (.bool d.r.t)∧w'.cell? ⟨w.heap.size,1,none⟩=some (iv x.z)∧w'.cell? ⟨w.heap.size,2,none⟩=some (iv x.r)) (first|with_reducible exact SD|go_keep) (first|(go_at_call 76;refine st (gG (v:=v) _ HV.o HF.o) ?_))
 go_wp2_with (first|(go_at_call 118;refine st (xR _ _ _ _ _ (Pl.uM HZ0.o HV.o)) ?_)|(go_at_call 75;refine (xQ _ lo mid hi p aT d x.z x.m x.k x.e a (Pl.kR x.z 0 0 v) HM_D.o HG1.o HI.o.k0 HI.o.k1 HA0.o HA1.o HVV.o).mono ?_;rintro e9 W_2 ⟨rfl,kW,hm9,hb9⟩;obtain ⟨dM,ql,gX⟩:=hb9.nx HX_D HHB HGB_D HS_D;clear hb9;have gZ:=hide hm9;obtain ⟨wH,wK,wI,wL,yc,yK,yJ,aN,iq⟩:=hm9.op;have sD:=aN.o.k4;have tu:=aN.o.frozen 4;clear b0 b1 b2 b3 b4 b5 b6;obtain ⟨b0,b1,b2,b3,b4,b5,b6⟩:=aF dM.o;rw [HSU.o] at b6))
 first|go_end0|refine bodyPost_ret (results_none rfl _ _ _) rfl ?_
 exact ⟨rfl,kW,by rw [E.o,E2.o];exact gZ.o.cF _,gX.o.set p 4 _ HPH.o⟩
theorem Je (w:World) (lo mid hi p g2:Nat) (c:Pl.Mc) (x:Pl.In) (h:MAt w lo mid hi p g2 c) (G:Pl.GM c) (B:Pl.InB x) (hm:x.m=0∨x.m=2∨x.m=3∨x.m=4∨x.m=5∨x.m=6) (hs:x.s=2) (hf:(c.read x.z x.m x.k x.e).fine=true) :
  Calls prog 77 #[.pointer (some ⟨p,0,none⟩),.agg (inX x)] w fun e w'=>e=.returned (.tuple #[])∧∃g3,MAt w' lo mid hi p g3 (c.one x)∧Since w lo hi g2 w' g3:=by
 have HG:=hide G
 have HI:=hide B
 have HMM:=hide hm
 have HSU:=hide hs
 clear hs
 have hl:=h.lo
 obtain ⟨X,hX,KA,HX,hbw,HHB,HGB,HPH,HPB,HMH,HS,HM⟩:=h.dL x
 obtain ⟨b0,b1,b2,b3,b4,b5,b6⟩:=aF HX.o
 rw [HSU.o] at b6
 clear h
 obtain ⟨gd,cd,ga,ca,g1,c1,c2,HB,HO⟩:=HM.o.op
 clear G B hm
 have HV:=hide (Pl.di (m:=x.m) HG.o HI.o.z HI.o.k0 HI.o.k1 HI.o.e0 HI.o.e1 (fun q=>absurd q (by have:=HMM.o;omega)) HI.o.n7)
 have HG1:=hide (HG.o.read (m:=x.m) HI.o.z HI.o.k0 HI.o.k1 HI.o.e0 HI.o.e1)
 have HFR:=Pl.xG c x.z x.m x.k x.e
 have HAA:0≤c.readA x.z x.m x.k x.e∧c.readA x.z x.m x.k x.e≤65535:=by
  unfold Pl.Mc.readA
  cases Pl.Mc.gI x.m
  ·exact Pl.iM HG.o.g HI.o.k0 HI.o.k1 HI.o.e0 HI.o.e1
  ·exact ⟨Int.le_refl 0,(by decide:(0:Int)≤65535)⟩
 have HRD:=fun w9 h9=>jJ w9 lo mid hi p g2 c x.z x.m x.k x.e h9 HG.o HI.o.z HI.o.k0 HI.o.k1 HI.o.e0 HI.o.e1 HI.o.m0 HI.o.m1
 obtain ⟨d,hd⟩:∃d,c.read x.z x.m x.k x.e=d:=⟨_,rfl⟩
 obtain ⟨v,hv⟩:∃v,c.aY x.z x.m x.k x.e=v:=⟨_,rfl⟩
 obtain ⟨a,hA⟩:∃a,c.readA x.z x.m x.k x.e=a:=⟨_,rfl⟩
 have E:Hid (c.one x=c.one' d x a v):=hide (by unfold Pl.Mc.one;rw [HSU.o,hf,hd,hv,hA];rfl)
 rw [hd] at hf HG1 HFR
 rw [hv] at HV
 rw [hA] at HAA
 simp only [hd,hv,hA] at HRD
 clear hd hv hA
 have HFE:=hide HFR
 have HA0:=hide HAA.1
 have HA1:=hide HAA.2
 have HF:=hide (Pl.bG HG1.o)
 clear HFR HAA
 have E2:Hid (c.one' d x a v=(d.write x.z x.m x.k a (Pl.top x.z-1-v)).aB (Pl.aQ x.z d.r.f (Pl.top x.z-1-v))):=hide (by unfold Pl.Mc.one';rw [HSU.o,HFE.o];rfl)
 have ht:=Pl.aP HV.o
 have ht0:256≤Pl.top x.z:=by omega
 have ht1:Pl.top x.z≤65536:=by omega
 obtain ⟨_,hv0,hv1⟩:=ht
 have HVV:Hid (Pl.okv x.z (Pl.top x.z-1-v)=true):=hide (by unfold Pl.okv;simp only [Bool.and_eq_true,Bool.or_eq_true,decide_eq_true_eq];exact ⟨HI.o.z,by omega,by omega⟩)
 go_enter func77,ntmps77
 go_wp2_with (first|(go_at_call 72;refine (HRD _ HM.o).mono ?_;rintro e9 W_1 ⟨rfl,aT,hm9,hb9⟩;obtain ⟨bg,bY,bI⟩:=hb9.nx HX HHB HGB HS;clear hb9;have aW:=hide hm9;obtain ⟨bQ,bU,bT,bV,eu,eP,eG,aX,bu⟩:=hm9.op;obtain ⟨lT,kX,oD,kC,oC,oz,ou,oh⟩:=aX.o.c8;clear b0 b1 b2 b3 b4 b5 b6;obtain ⟨b0,b1,b2,b3,b4,b5,b6⟩:=aF bg.o;rw [HSU.o] at b6)|(go_at_call 41;refine st (bK _ lo mid hi p aT _ aW.o) ?_;rw [hf]))
 have KD:=hide (ae (Kept.refl 0 0 W_1))
 have HM_D:=hide (aW.o.any KD.o)
 have HB_D:=hide (aX.o.any KD.o)
 have HO_D:=hide (bu.o.any KD.o)
 have HX_D:=hide (bg.o.af KD.o)
 have HS_D:=hide (bI.o.any KD.o)
 obtain ⟨t0_D,t1_D,t2_D,t3_D,t4_D,t5_D,t6_D,t7_D,t8_D,t9_D,t10_D,t11_D,t12_D,t13_D,t14_D,t15_D⟩:=HB_D.o.cells
 clear t0_D t1_D t2_D t3_D t5_D t6_D t7_D t8_D t9_D t10_D t11_D t12_D t13_D t14_D t15_D
 have f4_D:=HB_D.o.frozen 4
 clear b0 b1 b2 b3 b4 b5 b6
 obtain ⟨b0,b1,b2,b3,b4,b5,b6⟩:=aF HX_D.o
 rw [HSU.o] at b6
 have HGB_D:=bY
 have SD:=cellsS HB_D.o HX_D.o
 go_region_held3 (fun w'=>w'.cell? ⟨p,0,none⟩=some (.slice (some ⟨bQ,0,none⟩) 4 bU)∧w'.cell? ⟨p,1,none⟩=some (.slice (some ⟨bT,0,none⟩) 4 bV)∧w'.cell? ⟨p,2,none⟩=some (iv d.r.o)∧w'.cell? ⟨p,3,none⟩=some (iv d.r.p)∧w'.cell? ⟨p,4,none⟩=some (iv d.r.f)∧w'.cell? ⟨p,5,none⟩=some (iv d.r.m)∧w'.cell? ⟨p,6,none⟩=some (.bool d.r.s)∧w'.cell? ⟨p,7,none⟩=some (.bool d.r.t)∧w'.cell? ⟨w.heap.size,1,none⟩=some (iv x.z)∧w'.cell? ⟨w.heap.size,2,none⟩=some (iv x.r)) (first|with_reducible exact SD|go_keep) (first|(go_at_call 76;refine st (gG (v:=v) _ HV.o HF.o) ?_))
 go_wp2_with (go_at_call 116;refine st (JL x.z HI.o.z _) ?_)
 have KE:=hide (ae (Kept.refl 0 0 W_1.drew))
 have HM_E:=hide (HM_D.o.any KE.o)
 have HB_E:=hide (HB_D.o.any KE.o)
 have HO_E:=hide (HO_D.o.any KE.o)
 have HX_E:=hide (HX_D.o.af KE.o)
 have HS_E:=hide (HS_D.o.any KE.o)
 obtain ⟨t0_E,t1_E,t2_E,t3_E,t4_E,t5_E,t6_E,t7_E,t8_E,t9_E,t10_E,t11_E,t12_E,t13_E,t14_E,t15_E⟩:=HB_E.o.cells
 clear t0_E t1_E t2_E t3_E t5_E t6_E t7_E t8_E t9_E t10_E t11_E t12_E t13_E t14_E t15_E
 have f4_E:=HB_E.o.frozen 4
 clear b0 b1 b2 b3 b4 b5 b6
 obtain ⟨b0,b1,b2,b3,b4,b5,b6⟩:=aF HX_E.o
 rw [HSU.o] at b6
 have HGB_E:=HGB_D
 have SE:=cellsS HB_E.o HX_E.o
 go_region_held3 (fun w'=>w'.cell? ⟨p,0,none⟩=some (.slice (some ⟨bQ,0,none⟩) 4 bU)∧w'.cell? ⟨p,1,none⟩=some (.slice (some ⟨bT,0,none⟩) 4 bV)∧w'.cell? ⟨p,2,none⟩=some (iv d.r.o)∧w'.cell? ⟨p,3,none⟩=some (iv d.r.p)∧w'.cell? ⟨p,4,none⟩=some (iv d.r.f)∧w'.cell? ⟨p,5,none⟩=some (iv d.r.m)∧w'.cell? ⟨p,6,none⟩=some (.bool d.r.s)∧w'.cell? ⟨p,7,none⟩=some (.bool d.r.t)∧w'.cell? ⟨w.heap.size,1,none⟩=some (iv x.z)∧w'.cell? ⟨w.heap.size,2,none⟩=some (iv x.r)) (first|with_reducible exact SE|go_keep) (first|(go_at_call 76;refine st (gG (v:=Pl.top x.z-1-v) _ HVV.o HF.o) ?_))
 go_wp2_with (go_at_call 75;refine (xQ _ lo mid hi p aT d x.z x.m x.k x.e a (Pl.top x.z-1-v) HM_E.o HG1.o HI.o.k0 HI.o.k1 HA0.o HA1.o HVV.o).mono ?_;rintro e9 W_2 ⟨rfl,kW,hm9,hb9⟩;obtain ⟨dM,ql,gX⟩:=hb9.nx HX_E HHB HGB_E HS_E;clear hb9;have gZ:=hide hm9;obtain ⟨wH,wK,wI,wL,yc,yK,yJ,aN,iq⟩:=hm9.op;have sD:=aN.o.k4;have tu:=aN.o.frozen 4;clear b0 b1 b2 b3 b4 b5 b6;obtain ⟨b0,b1,b2,b3,b4,b5,b6⟩:=aF dM.o;rw [HSU.o] at b6)
 first|go_end0|refine bodyPost_ret (results_none rfl _ _ _) rfl ?_
 exact ⟨rfl,kW,by rw [E.o,E2.o];exact gZ.o.cF _,gX.o.set p 4 _ HPH.o⟩
theorem E8 (w:World) (lo mid hi p g2:Nat) (c:Pl.Mc) (x:Pl.In) (h:MAt w lo mid hi p g2 c) (G:Pl.GM c) (B:Pl.InB x) (hm:x.m=0∨x.m=2∨x.m=3∨x.m=4∨x.m=5∨x.m=6) (hs:x.s=0) (hfc:c.fine=true) :
  Calls prog 77 #[.pointer (some ⟨p,0,none⟩),.agg (inX x)] w fun e w'=>e=.returned (.tuple #[])∧∃g3,MAt w' lo mid hi p g3 (c.one x)∧Since w lo hi g2 w' g3:=by
 have HG:=hide G
 have HI:=hide B
 have HMM:=hide hm
 have HSU:=hide hs
 clear hs
 have hl:=h.lo
 obtain ⟨X,hX,KA,HX,hbw,HHB,HGB,HPH,HPB,HMH,HS,HM⟩:=h.dL x
 obtain ⟨b0,b1,b2,b3,b4,b5,b6⟩:=aF HX.o
 rw [HSU.o] at b6
 clear h
 obtain ⟨gd,cd,ga,ca,g1,c1,c2,HB,HO⟩:=HM.o.op
 clear G B hm
 have HG1:=hide (HG.o.place (z:=x.z) (m:=x.m) (e:=x.e) HI.o.k0 HI.o.k1)
 have HFR:=Pl.xJ c x.z x.m x.k x.e
 have HAA:=Pl.qm (z:=x.z) (m:=x.m) HG.o HI.o.k0 HI.o.k1 HI.o.e0 HI.o.e1
 have hf:(c.place x.z x.m x.k x.e).fine=true:=by
  rw [←hfc];unfold Pl.Mc.place;cases x.m==0<;>rfl
 have HRD:=fun w9 h9=>sS w9 lo mid hi p g2 c x.z x.m x.k x.e h9 HG.o HI.o.k0 HI.o.k1 HI.o.e0 HI.o.e1 HMM.o
 have E2:c.IC x=((c.place x.z x.m x.k x.e).write x.z x.m x.k (c.iL x.z x.m x.k x.e) 0).aB (Pl.aQ x.z c.r.f 0):=rfl
 obtain ⟨d,hd⟩:∃d,c.place x.z x.m x.k x.e=d:=⟨_,rfl⟩
 obtain ⟨a,hA⟩:∃a,c.iL x.z x.m x.k x.e=a:=⟨_,rfl⟩
 have E:Hid (c.one x=c.IC x):=hide (by unfold Pl.Mc.one;rw [HSU.o];rfl)
 rw [hd] at hf HG1 HFR
 rw [hA] at HAA
 rw [hd,hA,←HFR] at E2
 have E2:=hide E2
 simp only [hd,hA] at HRD
 clear hd hA hfc
 have HA0:=hide HAA.1
 have HA1:=hide HAA.2
 have HF:=hide (Pl.bG HG1.o)
 have HZ0:Hid (Pl.okv x.z 0=true):=hide (by rcases HI.o.z with q|q<;>rw [q]<;>decide)
 clear HFR HAA
 go_enter func77,ntmps77
 go_wp2_with (first|(go_at_call 73;refine (HRD _ HM.o).mono ?_;rintro e9 W_1 ⟨rfl,aT,hm9,hb9⟩;obtain ⟨bg,bY,bI⟩:=hb9.nx HX HHB HGB HS;clear hb9;have aW:=hide hm9;obtain ⟨bQ,bU,bT,bV,eu,eP,eG,aX,bu⟩:=hm9.op;obtain ⟨lT,kX,oD,kC,oC,oz,ou,oh⟩:=aX.o.c8;clear b0 b1 b2 b3 b4 b5 b6;obtain ⟨b0,b1,b2,b3,b4,b5,b6⟩:=aF bg.o;rw [HSU.o] at b6)|(go_at_call 41;refine st (bK _ lo mid hi p aT _ aW.o) ?_;rw [hf]))
 have KD:=hide (ae (Kept.refl 0 0 W_1))
 have HM_D:=hide (aW.o.any KD.o)
 have HB_D:=hide (aX.o.any KD.o)
 have HO_D:=hide (bu.o.any KD.o)
 have HX_D:=hide (bg.o.af KD.o)
 have HS_D:=hide (bI.o.any KD.o)
 obtain ⟨t0_D,t1_D,t2_D,t3_D,t4_D,t5_D,t6_D,t7_D,t8_D,t9_D,t10_D,t11_D,t12_D,t13_D,t14_D,t15_D⟩:=HB_D.o.cells
 clear t0_D t1_D t2_D t3_D t5_D t6_D t7_D t8_D t9_D t10_D t11_D t12_D t13_D t14_D t15_D
 have f4_D:=HB_D.o.frozen 4
 clear b0 b1 b2 b3 b4 b5 b6
 obtain ⟨b0,b1,b2,b3,b4,b5,b6⟩:=aF HX_D.o
 rw [HSU.o] at b6
 have HGB_D:=bY
 have SD:=cellsS HB_D.o HX_D.o
 go_region_held3 (fun w'=>w'.cell? ⟨p,0,none⟩=some (.slice (some ⟨bQ,0,none⟩) 4 bU)∧w'.cell? ⟨p,1,none⟩=some (.slice (some ⟨bT,0,none⟩) 4 bV)∧w'.cell? ⟨p,2,none⟩=some (iv d.r.o)∧w'.cell? ⟨p,3,none⟩=some (iv d.r.p)∧w'.cell? ⟨p,4,none⟩=some (iv d.r.f)∧w'.cell? ⟨p,5,none⟩=some (iv d.r.m)∧w'.cell? ⟨p,6,none⟩=some (.bool d.r.s)∧w'.cell? ⟨p,7,none⟩=some (.bool d.r.t)∧w'.cell? ⟨w.heap.size,1,none⟩=some (iv x.z)∧w'.cell? ⟨w.heap.size,2,none⟩=some (iv x.r)) (first|with_reducible exact SD|go_keep) (first|(go_at_call 76;refine st (gG (v:=0) _ HZ0.o HF.o) ?_))
 go_wp2_with (go_at_call 75;refine (xQ _ lo mid hi p aT d x.z x.m x.k x.e a (0) HM_D.o HG1.o HI.o.k0 HI.o.k1 HA0.o HA1.o HZ0.o).mono ?_;rintro e9 W_2 ⟨rfl,kW,hm9,hb9⟩;obtain ⟨dM,ql,gX⟩:=hb9.nx HX_D HHB HGB_D HS_D;clear hb9;have gZ:=hide hm9;obtain ⟨wH,wK,wI,wL,yc,yK,yJ,aN,iq⟩:=hm9.op;have sD:=aN.o.k4;have tu:=aN.o.frozen 4;clear b0 b1 b2 b3 b4 b5 b6;obtain ⟨b0,b1,b2,b3,b4,b5,b6⟩:=aF dM.o;rw [HSU.o] at b6)
 first|go_end0|refine bodyPost_ret (results_none rfl _ _ _) rfl ?_
 exact ⟨rfl,kW,by rw [E.o,E2.o];exact gZ.o.cF _,gX.o.set p 4 _ HPH.o⟩
theorem XR (w:World) (lo mid hi p g2:Nat) (c:Pl.Mc) (x:Pl.In) (h:MAt w lo mid hi p g2 c) (G:Pl.GM c) (B:Pl.InB x) (hm:x.m=0∨x.m=2∨x.m=3∨x.m=4∨x.m=5∨x.m=6) (hfc:c.fine=true) (hs:x.s=0∨x.s=1∨x.s=2∨x.s=3) :
  Calls prog 77 #[.pointer (some ⟨p,0,none⟩),.agg (inX x)] w fun e w'=>e=.returned (.tuple #[])∧∃g3,MAt w' lo mid hi p g3 (c.one x)∧Since w lo hi g2 w' g3:=by
 by_cases h0:x.s=0
 ·exact E8 w lo mid hi p g2 c x h G B hm h0 hfc
 ·cases hf:(c.read x.z x.m x.k x.e).fine
  ·exact Oc w lo mid hi p g2 c x h G B hm (by simpa using h0) hf
  ·rcases hs with hs|hs|hs|hs
   ·exact absurd hs h0
   ·exact Jf w lo mid hi p g2 c x h G B hm hs hf
   ·exact Je w lo mid hi p g2 c x h G B hm hs hf
   ·exact Fa w lo mid hi p g2 c x h G B hm hs hf
theorem jK (v:Int) (w:World) :
  Calls prog 128 #[iv v] w fun e w'=>e=.returned (.bool (Pl.bcd v))∧w'=w:=by
 by_cases hr:0≤v∧v≤255
 ·obtain ⟨h0,h1⟩:=hr
  have kd:(decide ((0:Int)≤v)&&decide (v≤255))=true:=by simp [h0,h1]
  have em:=Pl.LZ v
  by_cases h2:v/16≤9
  all_goals
   by_cases h3:v%16≤9
   all_goals
    go_enter func128,ntmps128
    go_wp2_with fail
    refine (dW _ _ _ _).mono ?_
    rintro e w' ⟨rfl,rfl⟩
    go_wp2_with fail
    go_ret
    exact ⟨rB (by rw [Bool.eq_iff_iff];simp [Pl.bcd];omega),rfl⟩
 ·have kd:(decide ((0:Int)≤v)&&decide (v≤255))=false:=by
   rw [Bool.and_eq_false_iff,decide_eq_false_iff_not,decide_eq_false_iff_not];omega
  go_enter func128,ntmps128
  go_wp2_with fail
  refine (dW _ _ _ _).mono ?_
  rintro e w' ⟨rfl,rfl⟩
  go_wp2_with fail
  go_ret
  exact ⟨rB (by rw [Pl.bcd,kd];rfl),rfl⟩
theorem Su (n:Int) (w:World) (h0:0≤n) (h1:n≤99) :
  Calls prog 157 #[iv n] w fun e w'=>e=.returned (iv (Pl.ofN n))∧w'=w:=by
 have eo:=Pl.RH n h0 h1
 go_enter func157,ntmps157
 go_wp2_with fail
 go_ret
 exact ⟨rfl,rfl⟩
theorem mW (v:Int) (w:World) (h:Pl.bcd v=true) :
  Calls prog 156 #[iv v] w fun e w'=>e=.returned (iv (Pl.num v))∧w'=w:=by
 obtain ⟨h0,h1,h2,h3⟩:=Pl.qi h
 have em:=Pl.LZ v
 clear h
 go_enter func156,ntmps156
 go_wp2_with fail
 go_ret
 exact ⟨rfl,rfl⟩
theorem DC (x a b:Int) (w:World) (h:Pl.fB x a b=true) :
  Calls prog 129 #[iv x,iv a,iv b] w fun e w'=>e=.returned (.tuple #[iv (Pl.aV x a b),iv (Pl.aC x a b)])∧w'=w:=by
 obtain ⟨x0,x1,ha,hb⟩:=Pl.uw h
 obtain ⟨a0,a1⟩:=Pl.lW ha
 obtain ⟨b0,b1⟩:=Pl.lW hb
 rw [Pl.Ef h,Pl.Eg h]
 go_enter func129,ntmps129
 go_wp2_with fail
 refine (mW a _ ha).mono ?_
 rintro e w' ⟨rfl,rfl⟩
 go_wp2_with fail
 refine (mW b _ hb).mono ?_
 rintro e w' ⟨rfl,rfl⟩
 go_wp2_with fail
 refine (Su _ _ (by omega) (by omega)).mono ?_
 rintro e w' ⟨rfl,rfl⟩
 go_wp2_with fail
 go_ret2
 exact ⟨rfl,rfl⟩
theorem Dz (x a b:Int) (w:World) (h:Pl.fB x a b=true) :
  Calls prog 130 #[iv x,iv a,iv b] w fun e w'=>e=.returned (.tuple #[iv (Pl.sV x a b),iv (Pl.sC x a b)])∧w'=w:=by
 obtain ⟨x0,x1,ha,hb⟩:=Pl.uw h
 obtain ⟨a0,a1⟩:=Pl.lW ha
 obtain ⟨b0,b1⟩:=Pl.lW hb
 rw [Pl.H9 h,Pl.Qs h]
 unfold Pl.Cb Pl.KG
 by_cases hn:Pl.num a-Pl.num b-x<0
 ·rw [if_pos hn,if_pos hn]
  go_enter func130,ntmps130
  go_wp2_with fail
  refine (mW a _ ha).mono ?_
  rintro e w' ⟨rfl,rfl⟩
  go_wp2_with fail
  refine (mW b _ hb).mono ?_
  rintro e w' ⟨rfl,rfl⟩
  go_wp2_with fail
  refine (Su _ _ (by omega) (by omega)).mono ?_
  rintro e w' ⟨rfl,rfl⟩
  go_wp2_with fail
  go_ret2
  exact ⟨rfl,rfl⟩
 ·rw [if_neg hn,if_neg hn]
  go_enter func130,ntmps130
  go_wp2_with fail
  refine (mW a _ ha).mono ?_
  rintro e w' ⟨rfl,rfl⟩
  go_wp2_with fail
  refine (mW b _ hb).mono ?_
  rintro e w' ⟨rfl,rfl⟩
  go_wp2_with fail
  refine (Su _ _ (by omega) (by omega)).mono ?_
  rintro e w' ⟨rfl,rfl⟩
  go_wp2_with fail
  go_ret2
  exact ⟨rfl,rfl⟩
namespace Pl
theorem MN:∀j:Nat,j<32→fl (bits .and .i64 (j:Int) 16 != 0) 1=(j:Int)/16%2:=by decide +kernel
theorem ML:∀j:Nat,j<32→∀C:Nat,C<2→bits .or .i64 (bits .and .i64 (j:Int) 4) ((C:Int)*17)=fl ((j:Int)/4%2==1) 4+(C:Int)*17∧fl ((j:Int)/4%2==1) 4+(C:Int)*17≤31∧0≤fl ((j:Int)/4%2==1) 4+(C:Int)*17:=by decide +kernel
theorem Vj:∀C:Nat,C<2→bits .or .i64 0 ((C:Int)*17)=(C:Int)*17:=by decide +kernel
theorem qp {v:Int} (h:bcd v=true):okv 1 v=true:=by have:=qi h;simp [okv,top];omega
end Pl
theorem FK (w:World) (lo mid hi p g2:Nat) (c:Pl.Mc) (x:Pl.In) (h:MAt w lo mid hi p g2 c) (G:Pl.GM c) (B:Pl.InB x) (hq1:Pl.bcd (el c.r.xs x.r.toNat%256)=false) (hq2:Pl.bcd (el c.r.xs x.k.toNat%256)=false) :
  Calls prog 83 #[.pointer (some ⟨p,0,none⟩),.agg (inX x)] w fun e w'=>e=.returned (.tuple #[])∧∃g3,MAt w' lo mid hi p g3 (c.jw x)∧Since w lo hi g2 w' g3:=by
 have HG:=hide G
 have HI:=hide B
 have hl:=h.lo
 obtain ⟨X,hX,KA,HX,hbw,HHB,HGB,HPH,HPB,HMH,HS,HM⟩:=h.dL x
 obtain ⟨b0,b1,b2,b3,b4,b5,b6⟩:=aF HX.o
 clear h
 obtain ⟨gd,cd,ga,ca,g1,c1,c2,HB,HO⟩:=HM.o.op
 have t0:=HB.o.k0
 clear G B
 have r0:=HI.o.r0
 have r1:=HI.o.r1
 have r4:x.r<4:=by omega
 have k0:=HI.o.k0
 have k1:=HI.o.k1
 have k4:x.k<4:=by omega
 have HR4:Hid (x.r.toNat<4):=hide (by omega)
 have HK4:Hid (x.k.toNat<4):=hide (by omega)
 obtain ⟨D1,hD1⟩:∃D,el c.r.xs x.r.toNat=D:=⟨_,rfl⟩
 obtain ⟨D2,hD2⟩:∃D,el c.r.xs x.k.toNat=D:=⟨_,rfl⟩
 obtain ⟨hc1,_⟩:=jH HO.o.d x.r.toNat (by rw [HG.o.g.d4];exact HR4.o)
 obtain ⟨hc2,_⟩:=jH HO.o.d x.k.toNat (by rw [HG.o.g.d4];exact HK4.o)
 rw [hD1] at hc1
 rw [hD2] at hc2
 have m1:=Pl.dK D1
 have m2:=Pl.dK D2
 obtain ⟨A,hA⟩:∃A,D1%256=A:=⟨_,rfl⟩
 obtain ⟨Bb,hB2⟩:∃A,D2%256=A:=⟨_,rfl⟩
 rw [hA] at m1
 rw [hB2] at m2
 have E:Hid (c.jw x=c.kL x A Bb):=hide (by unfold Pl.Mc.jw;rw [hD1,hD2,hA,hB2])
 rw [hD1,hA] at hq1
 rw [hD2,hB2] at hq2
 clear hD1 hD2 hA hB2
 have E2:Hid (c.kL x A Bb=c.vec 4):=hide (by unfold Pl.Mc.kL;rw [hq1,hq2];rfl)
 have KB:=hide (ae (ae (Kept.refl 0 0 X)))
 have HM_B:=hide (HM.o.any KB.o)
 have HB_B:=hide (HB.o.any KB.o)
 have HO_B:=hide (HO.o.any KB.o)
 have HX_B:=hide (HX.o.af KB.o)
 have HS_B:=hide (HS.o.any KB.o)
 obtain ⟨t0_B,t1_B,t2_B,t3_B,t4_B,t5_B,t6_B,t7_B,t8_B,t9_B,t10_B,t11_B,t12_B,t13_B,t14_B,t15_B⟩:=HB_B.o.cells
 clear t0_B t1_B t2_B t3_B t4_B t5_B t6_B t7_B t8_B t9_B t10_B t12_B t13_B t14_B t15_B
 have f11_B:=HB_B.o.frozen 11
 go_enter func83,ntmps83
 go_wp2_with fail
 go_region
 go_wp2_with fail
 go_region
 go_wp2_with (go_at_call 128;refine st (jK _ _) ?_;first|rw [hq1]|rw [hq2])
 first|go_end0|refine bodyPost_ret (results_none rfl _ _ _) rfl ?_
 exact ⟨rfl,g2,by rw [E.o,E2.o];exact HM_B.o.cV 4,HS_B.o.set p 11 _ HPH.o⟩
theorem FI (w:World) (lo mid hi p g2:Nat) (c:Pl.Mc) (x:Pl.In) (h:MAt w lo mid hi p g2 c) (G:Pl.GM c) (B:Pl.InB x) (hq1:Pl.bcd (el c.r.xs x.r.toNat%256)=false) (hq2:Pl.bcd (el c.r.xs x.k.toNat%256)=true) :
  Calls prog 83 #[.pointer (some ⟨p,0,none⟩),.agg (inX x)] w fun e w'=>e=.returned (.tuple #[])∧∃g3,MAt w' lo mid hi p g3 (c.jw x)∧Since w lo hi g2 w' g3:=by
 have HG:=hide G
 have HI:=hide B
 have hl:=h.lo
 obtain ⟨X,hX,KA,HX,hbw,HHB,HGB,HPH,HPB,HMH,HS,HM⟩:=h.dL x
 obtain ⟨b0,b1,b2,b3,b4,b5,b6⟩:=aF HX.o
 clear h
 obtain ⟨gd,cd,ga,ca,g1,c1,c2,HB,HO⟩:=HM.o.op
 have t0:=HB.o.k0
 clear G B
 have r0:=HI.o.r0
 have r1:=HI.o.r1
 have r4:x.r<4:=by omega
 have k0:=HI.o.k0
 have k1:=HI.o.k1
 have k4:x.k<4:=by omega
 have HR4:Hid (x.r.toNat<4):=hide (by omega)
 have HK4:Hid (x.k.toNat<4):=hide (by omega)
 obtain ⟨D1,hD1⟩:∃D,el c.r.xs x.r.toNat=D:=⟨_,rfl⟩
 obtain ⟨D2,hD2⟩:∃D,el c.r.xs x.k.toNat=D:=⟨_,rfl⟩
 obtain ⟨hc1,_⟩:=jH HO.o.d x.r.toNat (by rw [HG.o.g.d4];exact HR4.o)
 obtain ⟨hc2,_⟩:=jH HO.o.d x.k.toNat (by rw [HG.o.g.d4];exact HK4.o)
 rw [hD1] at hc1
 rw [hD2] at hc2
 have m1:=Pl.dK D1
 have m2:=Pl.dK D2
 obtain ⟨A,hA⟩:∃A,D1%256=A:=⟨_,rfl⟩
 obtain ⟨Bb,hB2⟩:∃A,D2%256=A:=⟨_,rfl⟩
 rw [hA] at m1
 rw [hB2] at m2
 have E:Hid (c.jw x=c.kL x A Bb):=hide (by unfold Pl.Mc.jw;rw [hD1,hD2,hA,hB2])
 rw [hD1,hA] at hq1
 rw [hD2,hB2] at hq2
 clear hD1 hD2 hA hB2
 have E2:Hid (c.kL x A Bb=c.vec 4):=hide (by unfold Pl.Mc.kL;rw [hq1,hq2];rfl)
 have KB:=hide (ae (ae (Kept.refl 0 0 X)))
 have HM_B:=hide (HM.o.any KB.o)
 have HB_B:=hide (HB.o.any KB.o)
 have HO_B:=hide (HO.o.any KB.o)
 have HX_B:=hide (HX.o.af KB.o)
 have HS_B:=hide (HS.o.any KB.o)
 obtain ⟨t0_B,t1_B,t2_B,t3_B,t4_B,t5_B,t6_B,t7_B,t8_B,t9_B,t10_B,t11_B,t12_B,t13_B,t14_B,t15_B⟩:=HB_B.o.cells
 clear t0_B t1_B t2_B t3_B t4_B t5_B t6_B t7_B t8_B t9_B t10_B t12_B t13_B t14_B t15_B
 have f11_B:=HB_B.o.frozen 11
 go_enter func83,ntmps83
 go_wp2_with fail
 go_region
 go_wp2_with fail
 go_region
 go_wp2_with (go_at_call 128;refine st (jK _ _) ?_;first|rw [hq1]|rw [hq2])
 first|go_end0|refine bodyPost_ret (results_none rfl _ _ _) rfl ?_
 exact ⟨rfl,g2,by rw [E.o,E2.o];exact HM_B.o.cV 4,HS_B.o.set p 11 _ HPH.o⟩
theorem FH (w:World) (lo mid hi p g2:Nat) (c:Pl.Mc) (x:Pl.In) (h:MAt w lo mid hi p g2 c) (G:Pl.GM c) (B:Pl.InB x) (hq1:Pl.bcd (el c.r.xs x.r.toNat%256)=true) (hq2:Pl.bcd (el c.r.xs x.k.toNat%256)=false) :
  Calls prog 83 #[.pointer (some ⟨p,0,none⟩),.agg (inX x)] w fun e w'=>e=.returned (.tuple #[])∧∃g3,MAt w' lo mid hi p g3 (c.jw x)∧Since w lo hi g2 w' g3:=by
 have HG:=hide G
 have HI:=hide B
 have hl:=h.lo
 obtain ⟨X,hX,KA,HX,hbw,HHB,HGB,HPH,HPB,HMH,HS,HM⟩:=h.dL x
 obtain ⟨b0,b1,b2,b3,b4,b5,b6⟩:=aF HX.o
 clear h
 obtain ⟨gd,cd,ga,ca,g1,c1,c2,HB,HO⟩:=HM.o.op
 have t0:=HB.o.k0
 clear G B
 have r0:=HI.o.r0
 have r1:=HI.o.r1
 have r4:x.r<4:=by omega
 have k0:=HI.o.k0
 have k1:=HI.o.k1
 have k4:x.k<4:=by omega
 have HR4:Hid (x.r.toNat<4):=hide (by omega)
 have HK4:Hid (x.k.toNat<4):=hide (by omega)
 obtain ⟨D1,hD1⟩:∃D,el c.r.xs x.r.toNat=D:=⟨_,rfl⟩
 obtain ⟨D2,hD2⟩:∃D,el c.r.xs x.k.toNat=D:=⟨_,rfl⟩
 obtain ⟨hc1,_⟩:=jH HO.o.d x.r.toNat (by rw [HG.o.g.d4];exact HR4.o)
 obtain ⟨hc2,_⟩:=jH HO.o.d x.k.toNat (by rw [HG.o.g.d4];exact HK4.o)
 rw [hD1] at hc1
 rw [hD2] at hc2
 have m1:=Pl.dK D1
 have m2:=Pl.dK D2
 obtain ⟨A,hA⟩:∃A,D1%256=A:=⟨_,rfl⟩
 obtain ⟨Bb,hB2⟩:∃A,D2%256=A:=⟨_,rfl⟩
 rw [hA] at m1
 rw [hB2] at m2
 have E:Hid (c.jw x=c.kL x A Bb):=hide (by unfold Pl.Mc.jw;rw [hD1,hD2,hA,hB2])
 rw [hD1,hA] at hq1
 rw [hD2,hB2] at hq2
 clear hD1 hD2 hA hB2
 have E2:Hid (c.kL x A Bb=c.vec 4):=hide (by unfold Pl.Mc.kL;rw [hq1,hq2];rfl)
 have KB:=hide (ae (ae (Kept.refl 0 0 X)))
 have HM_B:=hide (HM.o.any KB.o)
 have HB_B:=hide (HB.o.any KB.o)
 have HO_B:=hide (HO.o.any KB.o)
 have HX_B:=hide (HX.o.af KB.o)
 have HS_B:=hide (HS.o.any KB.o)
 obtain ⟨t0_B,t1_B,t2_B,t3_B,t4_B,t5_B,t6_B,t7_B,t8_B,t9_B,t10_B,t11_B,t12_B,t13_B,t14_B,t15_B⟩:=HB_B.o.cells
 clear t0_B t1_B t2_B t3_B t4_B t5_B t6_B t7_B t8_B t9_B t10_B t12_B t13_B t14_B t15_B
 have f11_B:=HB_B.o.frozen 11
 go_enter func83,ntmps83
 go_wp2_with fail
 go_region
 go_wp2_with fail
 go_region
 go_wp2_with (go_at_call 128;refine st (jK _ _) ?_;first|rw [hq1]|rw [hq2])
 first|go_end0|refine bodyPost_ret (results_none rfl _ _ _) rfl ?_
 exact ⟨rfl,g2,by rw [E.o,E2.o];exact HM_B.o.cV 4,HS_B.o.set p 11 _ HPH.o⟩
theorem FC (w:World) (lo mid hi p g2:Nat) (c:Pl.Mc) (x:Pl.In) (h:MAt w lo mid hi p g2 c) (G:Pl.GM c) (B:Pl.InB x) (hq1:Pl.bcd (el c.r.xs x.r.toNat%256)=true) (hq2:Pl.bcd (el c.r.xs x.k.toNat%256)=true) (hs:(x.s==1)=false) (hz:(Pl.aV c.xOf (el c.r.xs x.r.toNat%256) (el c.r.xs x.k.toNat%256)==0)=true) :
  Calls prog 83 #[.pointer (some ⟨p,0,none⟩),.agg (inX x)] w fun e w'=>e=.returned (.tuple #[])∧∃g3,MAt w' lo mid hi p g3 (c.jw x)∧Since w lo hi g2 w' g3:=by
 have HG:=hide G
 have HI:=hide B
 have hl:=h.lo
 obtain ⟨X,hX,KA,HX,hbw,HHB,HGB,HPH,HPB,HMH,HS,HM⟩:=h.dL x
 obtain ⟨b0,b1,b2,b3,b4,b5,b6⟩:=aF HX.o
 clear h
 obtain ⟨gd,cd,ga,ca,g1,c1,c2,HB,HO⟩:=HM.o.op
 have t0:=HB.o.k0
 clear G B
 have r0:=HI.o.r0
 have r1:=HI.o.r1
 have r4:x.r<4:=by omega
 have k0:=HI.o.k0
 have k1:=HI.o.k1
 have k4:x.k<4:=by omega
 have HR4:Hid (x.r.toNat<4):=hide (by omega)
 have HK4:Hid (x.k.toNat<4):=hide (by omega)
 obtain ⟨D1,hD1⟩:∃D,el c.r.xs x.r.toNat=D:=⟨_,rfl⟩
 obtain ⟨D2,hD2⟩:∃D,el c.r.xs x.k.toNat=D:=⟨_,rfl⟩
 obtain ⟨hc1,_⟩:=jH HO.o.d x.r.toNat (by rw [HG.o.g.d4];exact HR4.o)
 obtain ⟨hc2,_⟩:=jH HO.o.d x.k.toNat (by rw [HG.o.g.d4];exact HK4.o)
 rw [hD1] at hc1
 rw [hD2] at hc2
 have m1:=Pl.dK D1
 have m2:=Pl.dK D2
 obtain ⟨A,hA⟩:∃A,D1%256=A:=⟨_,rfl⟩
 obtain ⟨Bb,hB2⟩:∃A,D2%256=A:=⟨_,rfl⟩
 rw [hA] at m1
 rw [hB2] at m2
 have E:Hid (c.jw x=c.kL x A Bb):=hide (by unfold Pl.Mc.jw;rw [hD1,hD2,hA,hB2])
 rw [hD1,hA] at hq1 hz
 rw [hD2,hB2] at hq2 hz
 clear hD1 hD2 hA hB2
 obtain ⟨j,hj,hjf⟩:=Pl.lX (n:=32) HG.o.g.f0 (by have:=HG.o.g.f1;omega)
 have HXF:Hid (Pl.fl (bits .and .i64 c.r.f 16 != 0) 1=c.xOf):=hide (by unfold Pl.Mc.xOf;rw [hjf];exact Pl.MN j hj)
 have HX2:Hid (Pl.fB c.xOf A Bb=true):=hide (Pl.lw (by unfold Pl.Mc.xOf;omega) (by unfold Pl.Mc.xOf;omega) hq1 hq2)
 have EV:c.kF x.s A Bb=Pl.aV c.xOf A Bb:=by unfold Pl.Mc.kF;rw [hs];rfl
 have EC:c.lQ x.s A Bb=Pl.aC c.xOf A Bb:=by unfold Pl.Mc.lQ;rw [hs];rfl
 have HCb:=Pl.Ag c.xOf A Bb
 have HVb:=Pl.qp (Pl.yP HX2.o)
 obtain ⟨V,hV⟩:∃V,Pl.aV c.xOf A Bb=V:=⟨_,rfl⟩
 obtain ⟨C,hC⟩:∃C,Pl.aC c.xOf A Bb=C:=⟨_,rfl⟩
 rw [hV] at EV HVb hz
 rw [hC] at EC HCb
 obtain ⟨n,hn⟩:∃n:Nat,C=(n:Int):=⟨C.toNat,by omega⟩
 have hn2:n<2:=by omega
 have EF:c.nC x.s A Bb=Pl.fl (c.r.f/4%2==1) 4+C*17:=by unfold Pl.Mc.nC;rw [EV,EC,hz];simp
 obtain ⟨F,hF⟩:∃F,c.nC x.s A Bb=F:=⟨_,rfl⟩
 rw [hF] at EF
 have HFb:0≤F∧F≤31:=by
  rw [EF,hjf,hn];have q:=Pl.ML j hj n hn2;exact ⟨q.2.2,q.2.1⟩
 have hcf:bits .or .i64 (bits .and .i64 c.r.f 4) (C*17)=F:=by rw [EF,hjf,hn];exact (Pl.ML j hj n hn2).1
 have hC0:0≤C:=HCb.1
 have hC1:C≤1:=HCb.2
 have E2:Hid (c.kL x A Bb=(c.aB F).put 1 x.r V):=hide (by unfold Pl.Mc.kL;rw [hq1,hq2,EV,hF];rfl)
 have HVV:=hide HVb
 have HGF:=hide (HG.o.aB HFb.1 HFb.2).g
 have HHV:=hide hV
 have HHC:=hide hC
 clear hV hC EV EC EF hF HFb HCb HVb hn hjf hn2 hj
 obtain ⟨s0,s1,s2,s3,s4,s5,s6,s7,_⟩:=HB.o.cells
 have f0:=HB.o.fz
 clear s0
 go_enter func83,ntmps83
 go_wp2_with fail
 go_region
 go_wp2_with fail
 go_region
 go_wp2_with (first|(go_at_call 128;refine st (jK _ _) ?_;first|rw [hq1]|rw [hq2])|(go_at_call 119;refine st (dC _ _ _) ?_;rw [HXF.o])|(go_at_call 129;refine st (DC _ _ _ _ HX2.o) ?_;rw [HHV.o,HHC.o])|(go_at_call 130;refine st (Dz _ _ _ _ HX2.o) ?_))
 have HBY:=hide ((HB.o.cF (F)).any (ae (ae (ae (Kept.refl 0 0 (X.setCell ⟨p,4,none⟩ (iv (F))))))))
 have HOY:=hide ((HO.o.own (ak _ p 4 (iv (F)))).any (ae (ae (ae (Kept.refl 0 0 (X.setCell ⟨p,4,none⟩ (iv (F))))))))
 have HSY:=hide ((HS.o.set p 4 (iv (F)) HPH.o).drew.drew.drew)
 have HXY:=hide ((HX.o.other p 4 (iv (F)) (by have:=HPB.o;omega)).af (ae (ae (ae (Kept.refl 0 0 (X.setCell ⟨p,4,none⟩ (iv (F))))))))
 have HRY:=hide (MO.reg (r:=(c.aB (F)).r) HOY.o)
 have HMY:Hid (mid≤(X.setCell ⟨p,4,none⟩ (iv (F))).drew.drew.drew.heap.size):=hide (Nat.le_trans HMH.o HOY.o.hh)
 have HPM:=HOY.o.p0
 have HNM:Hid (¬(lo≤w.heap.size∧w.heap.size<mid)):=hide (by have:=HHB.o;have:=HMH.o;omega)
 have HNP:Hid (¬(p≤w.heap.size∧w.heap.size<p+1)):=hide (by have:=HPB.o;omega)
 have SYD:=cellsS HBY.o HXY.o
 go_region_held3 (fun w'=>w'.cell? ⟨p,0,none⟩=some (.slice (some ⟨gd,0,none⟩) 4 cd)∧w'.cell? ⟨p,1,none⟩=some (.slice (some ⟨ga,0,none⟩) 4 ca)∧w'.cell? ⟨p,2,none⟩=some (iv (c.aB (F)).r.o)∧w'.cell? ⟨p,3,none⟩=some (iv (c.aB (F)).r.p)∧w'.cell? ⟨p,4,none⟩=some (iv (c.aB (F)).r.f)∧w'.cell? ⟨p,5,none⟩=some (iv (c.aB (F)).r.m)∧w'.cell? ⟨p,6,none⟩=some (.bool (c.aB (F)).r.s)∧w'.cell? ⟨p,7,none⟩=some (.bool (c.aB (F)).r.t)∧w'.cell? ⟨w.heap.size,1,none⟩=some (iv x.z)∧w'.cell? ⟨w.heap.size,2,none⟩=some (iv x.r)) (first|with_reducible exact SYD|with_reducible exact cellsS aG.o jd.o|exact cellsS (aG.o.laid (Pl.jr (c.aB (F)).r 1 x.r V)) (Blk.kept jd.o (MB.jb _ _ _ _ _ _ _ _) HNP.o)|go_keep) (first|(go_at_call 79;refine (qH _ lo mid gd cd ga ca (c.aB (F)).r 1 x.r V HRY.o HMY.o HGF.o HI.o.r0 HI.o.r1 HVV.o).mono ?_;unfold iK;rintro e9 W_9 ⟨rfl,hr9,hk9⟩;have jU:=hide (HOY.o.regs hr9 hk9);have aG:=hide (HBY.o.regs hk9 HPM);have jd:=hide (Blk.kept HXY.o hk9 HNM.o);have jT:=hide (HSY.o.ai hk9 (Nat.le_refl _) HMH.o);clear hr9 hk9;obtain ⟨u0,u1,u2,u3,u4,u5,u6,u7,_⟩:=aG.o.cells;have f0:=aG.o.frozen 0;have f1:=aG.o.frozen 1;have f2:=aG.o.frozen 2;have f3:=aG.o.frozen 3;have f4:=aG.o.frozen 4;have f5:=aG.o.frozen 5;have f6:=aG.o.frozen 6;have f7:=aG.o.frozen 7))
 go_wp2_with fail
 first|go_end0|refine bodyPost_ret (results_none rfl _ _ _) rfl ?_
 exact ⟨rfl,g2,by rw [E.o,E2.o];exact MAt.laid aG.o jU.o,fG jT.o HPH.o _ _ _ _ _ _ _ _⟩
theorem FD (w:World) (lo mid hi p g2:Nat) (c:Pl.Mc) (x:Pl.In) (h:MAt w lo mid hi p g2 c) (G:Pl.GM c) (B:Pl.InB x) (hq1:Pl.bcd (el c.r.xs x.r.toNat%256)=true) (hq2:Pl.bcd (el c.r.xs x.k.toNat%256)=true) (hs:(x.s==1)=false) (hz:(Pl.aV c.xOf (el c.r.xs x.r.toNat%256) (el c.r.xs x.k.toNat%256)==0)=false) :
  Calls prog 83 #[.pointer (some ⟨p,0,none⟩),.agg (inX x)] w fun e w'=>e=.returned (.tuple #[])∧∃g3,MAt w' lo mid hi p g3 (c.jw x)∧Since w lo hi g2 w' g3:=by
 have HG:=hide G
 have HI:=hide B
 have hl:=h.lo
 obtain ⟨X,hX,KA,HX,hbw,HHB,HGB,HPH,HPB,HMH,HS,HM⟩:=h.dL x
 obtain ⟨b0,b1,b2,b3,b4,b5,b6⟩:=aF HX.o
 clear h
 obtain ⟨gd,cd,ga,ca,g1,c1,c2,HB,HO⟩:=HM.o.op
 have t0:=HB.o.k0
 clear G B
 have r0:=HI.o.r0
 have r1:=HI.o.r1
 have r4:x.r<4:=by omega
 have k0:=HI.o.k0
 have k1:=HI.o.k1
 have k4:x.k<4:=by omega
 have HR4:Hid (x.r.toNat<4):=hide (by omega)
 have HK4:Hid (x.k.toNat<4):=hide (by omega)
 obtain ⟨D1,hD1⟩:∃D,el c.r.xs x.r.toNat=D:=⟨_,rfl⟩
 obtain ⟨D2,hD2⟩:∃D,el c.r.xs x.k.toNat=D:=⟨_,rfl⟩
 obtain ⟨hc1,_⟩:=jH HO.o.d x.r.toNat (by rw [HG.o.g.d4];exact HR4.o)
 obtain ⟨hc2,_⟩:=jH HO.o.d x.k.toNat (by rw [HG.o.g.d4];exact HK4.o)
 rw [hD1] at hc1
 rw [hD2] at hc2
 have m1:=Pl.dK D1
 have m2:=Pl.dK D2
 obtain ⟨A,hA⟩:∃A,D1%256=A:=⟨_,rfl⟩
 obtain ⟨Bb,hB2⟩:∃A,D2%256=A:=⟨_,rfl⟩
 rw [hA] at m1
 rw [hB2] at m2
 have E:Hid (c.jw x=c.kL x A Bb):=hide (by unfold Pl.Mc.jw;rw [hD1,hD2,hA,hB2])
 rw [hD1,hA] at hq1 hz
 rw [hD2,hB2] at hq2 hz
 clear hD1 hD2 hA hB2
 obtain ⟨j,hj,hjf⟩:=Pl.lX (n:=32) HG.o.g.f0 (by have:=HG.o.g.f1;omega)
 have HXF:Hid (Pl.fl (bits .and .i64 c.r.f 16 != 0) 1=c.xOf):=hide (by unfold Pl.Mc.xOf;rw [hjf];exact Pl.MN j hj)
 have HX2:Hid (Pl.fB c.xOf A Bb=true):=hide (Pl.lw (by unfold Pl.Mc.xOf;omega) (by unfold Pl.Mc.xOf;omega) hq1 hq2)
 have EV:c.kF x.s A Bb=Pl.aV c.xOf A Bb:=by unfold Pl.Mc.kF;rw [hs];rfl
 have EC:c.lQ x.s A Bb=Pl.aC c.xOf A Bb:=by unfold Pl.Mc.lQ;rw [hs];rfl
 have HCb:=Pl.Ag c.xOf A Bb
 have HVb:=Pl.qp (Pl.yP HX2.o)
 obtain ⟨V,hV⟩:∃V,Pl.aV c.xOf A Bb=V:=⟨_,rfl⟩
 obtain ⟨C,hC⟩:∃C,Pl.aC c.xOf A Bb=C:=⟨_,rfl⟩
 rw [hV] at EV HVb hz
 rw [hC] at EC HCb
 obtain ⟨n,hn⟩:∃n:Nat,C=(n:Int):=⟨C.toNat,by omega⟩
 have hn2:n<2:=by omega
 have EF:c.nC x.s A Bb=C*17:=by unfold Pl.Mc.nC;rw [EV,EC,hz];simp [Pl.fl]
 obtain ⟨F,hF⟩:∃F,c.nC x.s A Bb=F:=⟨_,rfl⟩
 rw [hF] at EF
 have HFb:0≤F∧F≤31:=by
  rw [EF,hn];omega
 have hcf:bits .or .i64 0 (C*17)=F:=by rw [EF,hn];exact Pl.Vj n hn2
 have hC0:0≤C:=HCb.1
 have hC1:C≤1:=HCb.2
 have E2:Hid (c.kL x A Bb=(c.aB F).put 1 x.r V):=hide (by unfold Pl.Mc.kL;rw [hq1,hq2,EV,hF];rfl)
 have HVV:=hide HVb
 have HGF:=hide (HG.o.aB HFb.1 HFb.2).g
 have HHV:=hide hV
 have HHC:=hide hC
 clear hV hC EV EC EF hF HFb HCb HVb hn hjf hn2 hj
 obtain ⟨s0,s1,s2,s3,s4,s5,s6,s7,_⟩:=HB.o.cells
 have f0:=HB.o.fz
 clear s0
 go_enter func83,ntmps83
 go_wp2_with fail
 go_region
 go_wp2_with fail
 go_region
 go_wp2_with (first|(go_at_call 128;refine st (jK _ _) ?_;first|rw [hq1]|rw [hq2])|(go_at_call 119;refine st (dC _ _ _) ?_;rw [HXF.o])|(go_at_call 129;refine st (DC _ _ _ _ HX2.o) ?_;rw [HHV.o,HHC.o])|(go_at_call 130;refine st (Dz _ _ _ _ HX2.o) ?_))
 have HBY:=hide ((HB.o.cF (F)).any (ae (ae (ae (Kept.refl 0 0 (X.setCell ⟨p,4,none⟩ (iv (F))))))))
 have HOY:=hide ((HO.o.own (ak _ p 4 (iv (F)))).any (ae (ae (ae (Kept.refl 0 0 (X.setCell ⟨p,4,none⟩ (iv (F))))))))
 have HSY:=hide ((HS.o.set p 4 (iv (F)) HPH.o).drew.drew.drew)
 have HXY:=hide ((HX.o.other p 4 (iv (F)) (by have:=HPB.o;omega)).af (ae (ae (ae (Kept.refl 0 0 (X.setCell ⟨p,4,none⟩ (iv (F))))))))
 have HRY:=hide (MO.reg (r:=(c.aB (F)).r) HOY.o)
 have HMY:Hid (mid≤(X.setCell ⟨p,4,none⟩ (iv (F))).drew.drew.drew.heap.size):=hide (Nat.le_trans HMH.o HOY.o.hh)
 have HPM:=HOY.o.p0
 have HNM:Hid (¬(lo≤w.heap.size∧w.heap.size<mid)):=hide (by have:=HHB.o;have:=HMH.o;omega)
 have HNP:Hid (¬(p≤w.heap.size∧w.heap.size<p+1)):=hide (by have:=HPB.o;omega)
 have SYD:=cellsS HBY.o HXY.o
 go_region_held3 (fun w'=>w'.cell? ⟨p,0,none⟩=some (.slice (some ⟨gd,0,none⟩) 4 cd)∧w'.cell? ⟨p,1,none⟩=some (.slice (some ⟨ga,0,none⟩) 4 ca)∧w'.cell? ⟨p,2,none⟩=some (iv (c.aB (F)).r.o)∧w'.cell? ⟨p,3,none⟩=some (iv (c.aB (F)).r.p)∧w'.cell? ⟨p,4,none⟩=some (iv (c.aB (F)).r.f)∧w'.cell? ⟨p,5,none⟩=some (iv (c.aB (F)).r.m)∧w'.cell? ⟨p,6,none⟩=some (.bool (c.aB (F)).r.s)∧w'.cell? ⟨p,7,none⟩=some (.bool (c.aB (F)).r.t)∧w'.cell? ⟨w.heap.size,1,none⟩=some (iv x.z)∧w'.cell? ⟨w.heap.size,2,none⟩=some (iv x.r)) (first|with_reducible exact SYD|with_reducible exact cellsS aG.o jd.o|exact cellsS (aG.o.laid (Pl.jr (c.aB (F)).r 1 x.r V)) (Blk.kept jd.o (MB.jb _ _ _ _ _ _ _ _) HNP.o)|go_keep) (first|(go_at_call 79;refine (qH _ lo mid gd cd ga ca (c.aB (F)).r 1 x.r V HRY.o HMY.o HGF.o HI.o.r0 HI.o.r1 HVV.o).mono ?_;unfold iK;rintro e9 W_9 ⟨rfl,hr9,hk9⟩;have jU:=hide (HOY.o.regs hr9 hk9);have aG:=hide (HBY.o.regs hk9 HPM);have jd:=hide (Blk.kept HXY.o hk9 HNM.o);have jT:=hide (HSY.o.ai hk9 (Nat.le_refl _) HMH.o);clear hr9 hk9;obtain ⟨u0,u1,u2,u3,u4,u5,u6,u7,_⟩:=aG.o.cells;have f0:=aG.o.frozen 0;have f1:=aG.o.frozen 1;have f2:=aG.o.frozen 2;have f3:=aG.o.frozen 3;have f4:=aG.o.frozen 4;have f5:=aG.o.frozen 5;have f6:=aG.o.frozen 6;have f7:=aG.o.frozen 7))
 go_wp2_with fail
 first|go_end0|refine bodyPost_ret (results_none rfl _ _ _) rfl ?_
 exact ⟨rfl,g2,by rw [E.o,E2.o];exact MAt.laid aG.o jU.o,fG jT.o HPH.o _ _ _ _ _ _ _ _⟩
theorem Fz (w:World) (lo mid hi p g2:Nat) (c:Pl.Mc) (x:Pl.In) (h:MAt w lo mid hi p g2 c) (G:Pl.GM c) (B:Pl.InB x) (hq1:Pl.bcd (el c.r.xs x.r.toNat%256)=true) (hq2:Pl.bcd (el c.r.xs x.k.toNat%256)=true) (hs:x.s=1) (hz:(Pl.sV c.xOf (el c.r.xs x.r.toNat%256) (el c.r.xs x.k.toNat%256)==0)=true) :
  Calls prog 83 #[.pointer (some ⟨p,0,none⟩),.agg (inX x)] w fun e w'=>e=.returned (.tuple #[])∧∃g3,MAt w' lo mid hi p g3 (c.jw x)∧Since w lo hi g2 w' g3:=by
 have HG:=hide G
 have HI:=hide B
 have HSU:=hide hs
 clear hs
 have hl:=h.lo
 obtain ⟨X,hX,KA,HX,hbw,HHB,HGB,HPH,HPB,HMH,HS,HM⟩:=h.dL x
 obtain ⟨b0,b1,b2,b3,b4,b5,b6⟩:=aF HX.o
 rw [HSU.o] at b6
 clear h
 obtain ⟨gd,cd,ga,ca,g1,c1,c2,HB,HO⟩:=HM.o.op
 have t0:=HB.o.k0
 clear G B
 have r0:=HI.o.r0
 have r1:=HI.o.r1
 have r4:x.r<4:=by omega
 have k0:=HI.o.k0
 have k1:=HI.o.k1
 have k4:x.k<4:=by omega
 have HR4:Hid (x.r.toNat<4):=hide (by omega)
 have HK4:Hid (x.k.toNat<4):=hide (by omega)
 obtain ⟨D1,hD1⟩:∃D,el c.r.xs x.r.toNat=D:=⟨_,rfl⟩
 obtain ⟨D2,hD2⟩:∃D,el c.r.xs x.k.toNat=D:=⟨_,rfl⟩
 obtain ⟨hc1,_⟩:=jH HO.o.d x.r.toNat (by rw [HG.o.g.d4];exact HR4.o)
 obtain ⟨hc2,_⟩:=jH HO.o.d x.k.toNat (by rw [HG.o.g.d4];exact HK4.o)
 rw [hD1] at hc1
 rw [hD2] at hc2
 have m1:=Pl.dK D1
 have m2:=Pl.dK D2
 obtain ⟨A,hA⟩:∃A,D1%256=A:=⟨_,rfl⟩
 obtain ⟨Bb,hB2⟩:∃A,D2%256=A:=⟨_,rfl⟩
 rw [hA] at m1
 rw [hB2] at m2
 have E:Hid (c.jw x=c.kL x A Bb):=hide (by unfold Pl.Mc.jw;rw [hD1,hD2,hA,hB2])
 rw [hD1,hA] at hq1 hz
 rw [hD2,hB2] at hq2 hz
 clear hD1 hD2 hA hB2
 obtain ⟨j,hj,hjf⟩:=Pl.lX (n:=32) HG.o.g.f0 (by have:=HG.o.g.f1;omega)
 have HXF:Hid (Pl.fl (bits .and .i64 c.r.f 16 != 0) 1=c.xOf):=hide (by unfold Pl.Mc.xOf;rw [hjf];exact Pl.MN j hj)
 have HX2:Hid (Pl.fB c.xOf A Bb=true):=hide (Pl.lw (by unfold Pl.Mc.xOf;omega) (by unfold Pl.Mc.xOf;omega) hq1 hq2)
 have EV:c.kF x.s A Bb=Pl.sV c.xOf A Bb:=by unfold Pl.Mc.kF;rw [HSU.o];rfl
 have EC:c.lQ x.s A Bb=Pl.sC c.xOf A Bb:=by unfold Pl.Mc.lQ;rw [HSU.o];rfl
 have HCb:=Pl.Dc c.xOf A Bb
 have HVb:=Pl.qp (Pl.xE HX2.o)
 obtain ⟨V,hV⟩:∃V,Pl.sV c.xOf A Bb=V:=⟨_,rfl⟩
 obtain ⟨C,hC⟩:∃C,Pl.sC c.xOf A Bb=C:=⟨_,rfl⟩
 rw [hV] at EV HVb hz
 rw [hC] at EC HCb
 obtain ⟨n,hn⟩:∃n:Nat,C=(n:Int):=⟨C.toNat,by omega⟩
 have hn2:n<2:=by omega
 have EF:c.nC x.s A Bb=Pl.fl (c.r.f/4%2==1) 4+C*17:=by unfold Pl.Mc.nC;rw [EV,EC,hz];simp
 obtain ⟨F,hF⟩:∃F,c.nC x.s A Bb=F:=⟨_,rfl⟩
 rw [hF] at EF
 have HFb:0≤F∧F≤31:=by
  rw [EF,hjf,hn];have q:=Pl.ML j hj n hn2;exact ⟨q.2.2,q.2.1⟩
 have hcf:bits .or .i64 (bits .and .i64 c.r.f 4) (C*17)=F:=by rw [EF,hjf,hn];exact (Pl.ML j hj n hn2).1
 have hC0:0≤C:=HCb.1
 have hC1:C≤1:=HCb.2
 have E2:Hid (c.kL x A Bb=(c.aB F).put 1 x.r V):=hide (by unfold Pl.Mc.kL;rw [hq1,hq2,EV,hF];rfl)
 have HVV:=hide HVb
 have HGF:=hide (HG.o.aB HFb.1 HFb.2).g
 have HHV:=hide hV
 have HHC:=hide hC
 clear hV hC EV EC EF hF HFb HCb HVb hn hjf hn2 hj
 obtain ⟨s0,s1,s2,s3,s4,s5,s6,s7,_⟩:=HB.o.cells
 have f0:=HB.o.fz
 clear s0
 go_enter func83,ntmps83
 go_wp2_with fail
 go_region
 go_wp2_with fail
 go_region
 go_wp2_with (first|(go_at_call 128;refine st (jK _ _) ?_;first|rw [hq1]|rw [hq2])|(go_at_call 119;refine st (dC _ _ _) ?_;rw [HXF.o])|(go_at_call 129;refine st (DC _ _ _ _ HX2.o) ?_)|(go_at_call 130;refine st (Dz _ _ _ _ HX2.o) ?_;rw [HHV.o,HHC.o]))
 have HBY:=hide ((HB.o.cF (F)).any (ae (ae (ae (Kept.refl 0 0 (X.setCell ⟨p,4,none⟩ (iv (F))))))))
 have HOY:=hide ((HO.o.own (ak _ p 4 (iv (F)))).any (ae (ae (ae (Kept.refl 0 0 (X.setCell ⟨p,4,none⟩ (iv (F))))))))
 have HSY:=hide ((HS.o.set p 4 (iv (F)) HPH.o).drew.drew.drew)
 have HXY:=hide ((HX.o.other p 4 (iv (F)) (by have:=HPB.o;omega)).af (ae (ae (ae (Kept.refl 0 0 (X.setCell ⟨p,4,none⟩ (iv (F))))))))
 have HRY:=hide (MO.reg (r:=(c.aB (F)).r) HOY.o)
 have HMY:Hid (mid≤(X.setCell ⟨p,4,none⟩ (iv (F))).drew.drew.drew.heap.size):=hide (Nat.le_trans HMH.o HOY.o.hh)
 have HPM:=HOY.o.p0
 have HNM:Hid (¬(lo≤w.heap.size∧w.heap.size<mid)):=hide (by have:=HHB.o;have:=HMH.o;omega)
 have HNP:Hid (¬(p≤w.heap.size∧w.heap.size<p+1)):=hide (by have:=HPB.o;omega)
 have SYD:=cellsS HBY.o HXY.o
 go_region_held3 (fun w'=>w'.cell? ⟨p,0,none⟩=some (.slice (some ⟨gd,0,none⟩) 4 cd)∧w'.cell? ⟨p,1,none⟩=some (.slice (some ⟨ga,0,none⟩) 4 ca)∧w'.cell? ⟨p,2,none⟩=some (iv (c.aB (F)).r.o)∧w'.cell? ⟨p,3,none⟩=some (iv (c.aB (F)).r.p)∧w'.cell? ⟨p,4,none⟩=some (iv (c.aB (F)).r.f)∧w'.cell? ⟨p,5,none⟩=some (iv (c.aB (F)).r.m)∧w'.cell? ⟨p,6,none⟩=some (.bool (c.aB (F)).r.s)∧w'.cell? ⟨p,7,none⟩=some (.bool (c.aB (F)).r.t)∧w'.cell? ⟨w.heap.size,1,none⟩=some (iv x.z)∧w'.cell? ⟨w.heap.size,2,none⟩=some (iv x.r)) (first|with_reducible exact SYD|with_reducible exact cellsS aG.o jd.o|exact cellsS (aG.o.laid (Pl.jr (c.aB (F)).r 1 x.r V)) (Blk.kept jd.o (MB.jb _ _ _ _ _ _ _ _) HNP.o)|go_keep) (first|(go_at_call 79;refine (qH _ lo mid gd cd ga ca (c.aB (F)).r 1 x.r V HRY.o HMY.o HGF.o HI.o.r0 HI.o.r1 HVV.o).mono ?_;unfold iK;rintro e9 W_9 ⟨rfl,hr9,hk9⟩;have jU:=hide (HOY.o.regs hr9 hk9);have aG:=hide (HBY.o.regs hk9 HPM);have jd:=hide (Blk.kept HXY.o hk9 HNM.o);have jT:=hide (HSY.o.ai hk9 (Nat.le_refl _) HMH.o);clear hr9 hk9;obtain ⟨u0,u1,u2,u3,u4,u5,u6,u7,_⟩:=aG.o.cells;have f0:=aG.o.frozen 0;have f1:=aG.o.frozen 1;have f2:=aG.o.frozen 2;have f3:=aG.o.frozen 3;have f4:=aG.o.frozen 4;have f5:=aG.o.frozen 5;have f6:=aG.o.frozen 6;have f7:=aG.o.frozen 7))
 go_wp2_with fail
 first|go_end0|refine bodyPost_ret (results_none rfl _ _ _) rfl ?_
 exact ⟨rfl,g2,by rw [E.o,E2.o];exact MAt.laid aG.o jU.o,fG jT.o HPH.o _ _ _ _ _ _ _ _⟩
theorem FB (w:World) (lo mid hi p g2:Nat) (c:Pl.Mc) (x:Pl.In) (h:MAt w lo mid hi p g2 c) (G:Pl.GM c) (B:Pl.InB x) (hq1:Pl.bcd (el c.r.xs x.r.toNat%256)=true) (hq2:Pl.bcd (el c.r.xs x.k.toNat%256)=true) (hs:x.s=1) (hz:(Pl.sV c.xOf (el c.r.xs x.r.toNat%256) (el c.r.xs x.k.toNat%256)==0)=false) :
  Calls prog 83 #[.pointer (some ⟨p,0,none⟩),.agg (inX x)] w fun e w'=>e=.returned (.tuple #[])∧∃g3,MAt w' lo mid hi p g3 (c.jw x)∧Since w lo hi g2 w' g3:=by
 have HG:=hide G
 have HI:=hide B
 have HSU:=hide hs
 clear hs
 have hl:=h.lo
 obtain ⟨X,hX,KA,HX,hbw,HHB,HGB,HPH,HPB,HMH,HS,HM⟩:=h.dL x
 obtain ⟨b0,b1,b2,b3,b4,b5,b6⟩:=aF HX.o
 rw [HSU.o] at b6
 clear h
 obtain ⟨gd,cd,ga,ca,g1,c1,c2,HB,HO⟩:=HM.o.op
 have t0:=HB.o.k0
 clear G B
 have r0:=HI.o.r0
 have r1:=HI.o.r1
 have r4:x.r<4:=by omega
 have k0:=HI.o.k0
 have k1:=HI.o.k1
 have k4:x.k<4:=by omega
 have HR4:Hid (x.r.toNat<4):=hide (by omega)
 have HK4:Hid (x.k.toNat<4):=hide (by omega)
 obtain ⟨D1,hD1⟩:∃D,el c.r.xs x.r.toNat=D:=⟨_,rfl⟩
 obtain ⟨D2,hD2⟩:∃D,el c.r.xs x.k.toNat=D:=⟨_,rfl⟩
 obtain ⟨hc1,_⟩:=jH HO.o.d x.r.toNat (by rw [HG.o.g.d4];exact HR4.o)
 obtain ⟨hc2,_⟩:=jH HO.o.d x.k.toNat (by rw [HG.o.g.d4];exact HK4.o)
 rw [hD1] at hc1
 rw [hD2] at hc2
 have m1:=Pl.dK D1
 have m2:=Pl.dK D2
 obtain ⟨A,hA⟩:∃A,D1%256=A:=⟨_,rfl⟩
 obtain ⟨Bb,hB2⟩:∃A,D2%256=A:=⟨_,rfl⟩
 rw [hA] at m1
 rw [hB2] at m2
 have E:Hid (c.jw x=c.kL x A Bb):=hide (by unfold Pl.Mc.jw;rw [hD1,hD2,hA,hB2])
 rw [hD1,hA] at hq1 hz
 rw [hD2,hB2] at hq2 hz
 clear hD1 hD2 hA hB2
 obtain ⟨j,hj,hjf⟩:=Pl.lX (n:=32) HG.o.g.f0 (by have:=HG.o.g.f1;omega)
 have HXF:Hid (Pl.fl (bits .and .i64 c.r.f 16 != 0) 1=c.xOf):=hide (by unfold Pl.Mc.xOf;rw [hjf];exact Pl.MN j hj)
 have HX2:Hid (Pl.fB c.xOf A Bb=true):=hide (Pl.lw (by unfold Pl.Mc.xOf;omega) (by unfold Pl.Mc.xOf;omega) hq1 hq2)
 have EV:c.kF x.s A Bb=Pl.sV c.xOf A Bb:=by unfold Pl.Mc.kF;rw [HSU.o];rfl
 have EC:c.lQ x.s A Bb=Pl.sC c.xOf A Bb:=by unfold Pl.Mc.lQ;rw [HSU.o];rfl
 have HCb:=Pl.Dc c.xOf A Bb
 have HVb:=Pl.qp (Pl.xE HX2.o)
 obtain ⟨V,hV⟩:∃V,Pl.sV c.xOf A Bb=V:=⟨_,rfl⟩
 obtain ⟨C,hC⟩:∃C,Pl.sC c.xOf A Bb=C:=⟨_,rfl⟩
 rw [hV] at EV HVb hz
 rw [hC] at EC HCb
 obtain ⟨n,hn⟩:∃n:Nat,C=(n:Int):=⟨C.toNat,by omega⟩
 have hn2:n<2:=by omega
 have EF:c.nC x.s A Bb=C*17:=by unfold Pl.Mc.nC;rw [EV,EC,hz];simp [Pl.fl]
 obtain ⟨F,hF⟩:∃F,c.nC x.s A Bb=F:=⟨_,rfl⟩
 rw [hF] at EF
 have HFb:0≤F∧F≤31:=by
  rw [EF,hn];omega
 have hcf:bits .or .i64 0 (C*17)=F:=by rw [EF,hn];exact Pl.Vj n hn2
 have hC0:0≤C:=HCb.1
 have hC1:C≤1:=HCb.2
 have E2:Hid (c.kL x A Bb=(c.aB F).put 1 x.r V):=hide (by unfold Pl.Mc.kL;rw [hq1,hq2,EV,hF];rfl)
 have HVV:=hide HVb
 have HGF:=hide (HG.o.aB HFb.1 HFb.2).g
 have HHV:=hide hV
 have HHC:=hide hC
 clear hV hC EV EC EF hF HFb HCb HVb hn hjf hn2 hj
 obtain ⟨s0,s1,s2,s3,s4,s5,s6,s7,_⟩:=HB.o.cells
 have f0:=HB.o.fz
 clear s0
 go_enter func83,ntmps83
 go_wp2_with fail
 go_region
 go_wp2_with fail
 go_region
 go_wp2_with (first|(go_at_call 128;refine st (jK _ _) ?_;first|rw [hq1]|rw [hq2])|(go_at_call 119;refine st (dC _ _ _) ?_;rw [HXF.o])|(go_at_call 129;refine st (DC _ _ _ _ HX2.o) ?_)|(go_at_call 130;refine st (Dz _ _ _ _ HX2.o) ?_;rw [HHV.o,HHC.o]))
 have HBY:=hide ((HB.o.cF (F)).any (ae (ae (ae (Kept.refl 0 0 (X.setCell ⟨p,4,none⟩ (iv (F))))))))
 have HOY:=hide ((HO.o.own (ak _ p 4 (iv (F)))).any (ae (ae (ae (Kept.refl 0 0 (X.setCell ⟨p,4,none⟩ (iv (F))))))))
 have HSY:=hide ((HS.o.set p 4 (iv (F)) HPH.o).drew.drew.drew)
 have HXY:=hide ((HX.o.other p 4 (iv (F)) (by have:=HPB.o;omega)).af (ae (ae (ae (Kept.refl 0 0 (X.setCell ⟨p,4,none⟩ (iv (F))))))))
 have HRY:=hide (MO.reg (r:=(c.aB (F)).r) HOY.o)
 have HMY:Hid (mid≤(X.setCell ⟨p,4,none⟩ (iv (F))).drew.drew.drew.heap.size):=hide (Nat.le_trans HMH.o HOY.o.hh)
 have HPM:=HOY.o.p0
 have HNM:Hid (¬(lo≤w.heap.size∧w.heap.size<mid)):=hide (by have:=HHB.o;have:=HMH.o;omega)
 have HNP:Hid (¬(p≤w.heap.size∧w.heap.size<p+1)):=hide (by have:=HPB.o;omega)
 have SYD:=cellsS HBY.o HXY.o
 go_region_held3 (fun w'=>w'.cell? ⟨p,0,none⟩=some (.slice (some ⟨gd,0,none⟩) 4 cd)∧w'.cell? ⟨p,1,none⟩=some (.slice (some ⟨ga,0,none⟩) 4 ca)∧w'.cell? ⟨p,2,none⟩=some (iv (c.aB (F)).r.o)∧w'.cell? ⟨p,3,none⟩=some (iv (c.aB (F)).r.p)∧w'.cell? ⟨p,4,none⟩=some (iv (c.aB (F)).r.f)∧w'.cell? ⟨p,5,none⟩=some (iv (c.aB (F)).r.m)∧w'.cell? ⟨p,6,none⟩=some (.bool (c.aB (F)).r.s)∧w'.cell? ⟨p,7,none⟩=some (.bool (c.aB (F)).r.t)∧w'.cell? ⟨w.heap.size,1,none⟩=some (iv x.z)∧w'.cell? ⟨w.heap.size,2,none⟩=some (iv x.r)) (first|with_reducible exact SYD|with_reducible exact cellsS aG.o jd.o|exact cellsS (aG.o.laid (Pl.jr (c.aB (F)).r 1 x.r V)) (Blk.kept jd.o (MB.jb _ _ _ _ _ _ _ _) HNP.o)|go_keep) (first|(go_at_call 79;refine (qH _ lo mid gd cd ga ca (c.aB (F)).r 1 x.r V HRY.o HMY.o HGF.o HI.o.r0 HI.o.r1 HVV.o).mono ?_;unfold iK;rintro e9 W_9 ⟨rfl,hr9,hk9⟩;have jU:=hide (HOY.o.regs hr9 hk9);have aG:=hide (HBY.o.regs hk9 HPM);have jd:=hide (Blk.kept HXY.o hk9 HNM.o);have jT:=hide (HSY.o.ai hk9 (Nat.le_refl _) HMH.o);clear hr9 hk9;obtain ⟨u0,u1,u2,u3,u4,u5,u6,u7,_⟩:=aG.o.cells;have f0:=aG.o.frozen 0;have f1:=aG.o.frozen 1;have f2:=aG.o.frozen 2;have f3:=aG.o.frozen 3;have f4:=aG.o.frozen 4;have f5:=aG.o.frozen 5;have f6:=aG.o.frozen 6;have f7:=aG.o.frozen 7))
 go_wp2_with fail
 first|go_end0|refine bodyPost_ret (results_none rfl _ _ _) rfl ?_
 exact ⟨rfl,g2,by rw [E.o,E2.o];exact MAt.laid aG.o jU.o,fG jT.o HPH.o _ _ _ _ _ _ _ _⟩
theorem XT (w:World) (lo mid hi p g2:Nat) (c:Pl.Mc) (x:Pl.In) (h:MAt w lo mid hi p g2 c) (G:Pl.GM c) (B:Pl.InB x) :
  Calls prog 83 #[.pointer (some ⟨p,0,none⟩),.agg (inX x)] w fun e w'=>e=.returned (.tuple #[])∧∃g3,MAt w' lo mid hi p g3 (c.jw x)∧Since w lo hi g2 w' g3:=by
 cases hq1:Pl.bcd (el c.r.xs x.r.toNat%256)
 ·cases hq2:Pl.bcd (el c.r.xs x.k.toNat%256)
  ·exact FK w lo mid hi p g2 c x h G B hq1 hq2
  ·exact FI w lo mid hi p g2 c x h G B hq1 hq2
 ·cases hq2:Pl.bcd (el c.r.xs x.k.toNat%256)
  ·exact FH w lo mid hi p g2 c x h G B hq1 hq2
  ·by_cases hs:x.s=1
   ·cases hz:(Pl.sV c.xOf (el c.r.xs x.r.toNat%256) (el c.r.xs x.k.toNat%256)==0)
    ·exact FB w lo mid hi p g2 c x h G B hq1 hq2 hs hz
    ·exact Fz w lo mid hi p g2 c x h G B hq1 hq2 hs hz
   ·cases hz:(Pl.aV c.xOf (el c.r.xs x.r.toNat%256) (el c.r.xs x.k.toNat%256)==0)
    ·exact FD w lo mid hi p g2 c x h G B hq1 hq2 (by simpa using hs) hz
    ·exact FC w lo mid hi p g2 c x h G B hq1 hq2 (by simpa using hs) hz
namespace Pl
theorem GL {v:Int} (h:okv 2 v=true):0≤v∧v≤65535:=by simp [okv,top] at h;omega
theorem GM.pop {c:Mc} (h:GM c):GM c.pop:=by
 have a3:=h.g.aw 3 (by omega)
 have q:=h.acc (iJ (.inl rfl) a3.1 a3.2)
 unfold Mc.pop
 cases (c.acc 1 2 (el c.r.ys 3) 0).fine
 ·exact q
 ·exact q.fM 3 (by omega) (by omega)
theorem kH {c:Mc} (h:GM c):0≤c.dV∧c.dV≤65535:=by
 have a3:=h.g.aw 3 (by omega)
 exact GL (h.jE (iJ (.inl rfl) a3.1 a3.2))
theorem Qh (a:Int):bits .and .i64 a 1023=a%1024:=by
 show IntKind.i64.wrap ((BitVec.ofInt 64 a &&& BitVec.ofInt 64 1023).toNat:Int)=_
 rw [BitVec.toNat_and,BitVec.toNat_ofInt,show (BitVec.ofInt 64 1023).toNat=2^10-1 from by decide,Nat.and_two_pow_sub_one_eq_mod,IntKind.wrap_i64]
 omega
end Pl
theorem Ff (w:World) (lo mid hi p g2:Nat) (c:Pl.Mc) (x:Pl.In) (h:MAt w lo mid hi p g2 c) (G:Pl.GM c) (B:Pl.InB x) (hs:x.s=0) :
  Calls prog 81 #[.pointer (some ⟨p,0,none⟩),.agg (inX x)] w fun e w'=>e=.returned (.tuple #[])∧∃g3,MAt w' lo mid hi p g3 (c.iD x)∧Since w lo hi g2 w' g3:=by
 have HG:=hide G
 have HI:=hide B
 have HSU:=hide hs
 clear hs
 have hl:=h.lo
 obtain ⟨X,hX,KA,HX,hbw,HHB,HGB,HPH,HPB,HMH,HS,HM⟩:=h.dL x
 obtain ⟨b0,b1,b2,b3,b4,b5,b6⟩:=aF HX.o
 rw [HSU.o] at b6
 clear h
 obtain ⟨gd,cd,ga,ca,g1,c1,c2,HB,HO⟩:=HM.o.op
 clear G B
 have E:Hid (c.iD x=c.pop.aJ c.dV):=hide (by unfold Pl.Mc.iD;rw [HSU.o];rfl)
 go_enter func81,ntmps81
 go_wp2_with (go_at_call 123;refine (E5 _ lo mid hi p g2 c HM.o HG.o).mono ?_;rintro e9 W_1 ⟨rfl,aT,hm9,hb9⟩;obtain ⟨bg,bY,bI⟩:=hb9.nx HX HHB HGB HS;clear hb9;have aW:=hide hm9;obtain ⟨bQ,bU,bT,bV,eu,eP,eG,aX,bu⟩:=hm9.op;have kC:=aX.o.k3;have F5:=aX.o.frozen 3;clear b0 b1 b2 b3 b4 b5 b6;obtain ⟨b0,b1,b2,b3,b4,b5,b6⟩:=aF bg.o;rw [HSU.o] at b6)
 first|go_end0|refine bodyPost_ret (results_none rfl _ _ _) rfl ?_
 exact ⟨rfl,aT,by rw [E.o];exact aW.o.cP _,bI.o.set p 3 _ HPH.o⟩
theorem BB (w:World) (lo mid hi p g2:Nat) (c:Pl.Mc) (x:Pl.In) (h:MAt w lo mid hi p g2 c) (G:Pl.GM c) (B:Pl.InB x) (hs:x.s=1) (hf:c.pop.fine=false) :
  Calls prog 81 #[.pointer (some ⟨p,0,none⟩),.agg (inX x)] w fun e w'=>e=.returned (.tuple #[])∧∃g3,MAt w' lo mid hi p g3 (c.iD x)∧Since w lo hi g2 w' g3:=by
 have HG:=hide G
 have HI:=hide B
 have HSU:=hide hs
 clear hs
 have hl:=h.lo
 obtain ⟨X,hX,KA,HX,hbw,HHB,HGB,HPH,HPB,HMH,HS,HM⟩:=h.dL x
 obtain ⟨b0,b1,b2,b3,b4,b5,b6⟩:=aF HX.o
 rw [HSU.o] at b6
 clear h
 obtain ⟨gd,cd,ga,ca,g1,c1,c2,HB,HO⟩:=HM.o.op
 clear G B
 have E:Hid (c.iD x=c.pop):=hide (by unfold Pl.Mc.iD;rw [HSU.o,hf];rfl)
 go_enter func81,ntmps81
 go_wp2_with (first|(go_at_call 123;refine (E5 _ lo mid hi p g2 c HM.o HG.o).mono ?_;rintro e9 W_1 ⟨rfl,aT,hm9,hb9⟩;obtain ⟨bg,bY,bI⟩:=hb9.nx HX HHB HGB HS;clear hb9;have aW:=hide hm9;obtain ⟨bQ,bU,bT,bV,eu,eP,eG,aX,bu⟩:=hm9.op;have kC:=aX.o.k3;have F5:=aX.o.frozen 3;clear b0 b1 b2 b3 b4 b5 b6;obtain ⟨b0,b1,b2,b3,b4,b5,b6⟩:=aF bg.o;rw [HSU.o] at b6)|(go_at_call 41;refine st (bK _ lo mid hi p aT _ aW.o) ?_;rw [hf]))
 first|go_end0|refine bodyPost_ret (results_none rfl _ _ _) rfl ?_
 exact ⟨rfl,aT,by rw [E.o];exact aW.o,bI.o⟩
theorem Bz (w:World) (lo mid hi p g2:Nat) (c:Pl.Mc) (x:Pl.In) (h:MAt w lo mid hi p g2 c) (G:Pl.GM c) (B:Pl.InB x) (hs:x.s=1) (hf:c.pop.fine=true) (hf2:c.pop.pop.fine=false) :
  Calls prog 81 #[.pointer (some ⟨p,0,none⟩),.agg (inX x)] w fun e w'=>e=.returned (.tuple #[])∧∃g3,MAt w' lo mid hi p g3 (c.iD x)∧Since w lo hi g2 w' g3:=by
 have HG:=hide G
 have HI:=hide B
 have HSU:=hide hs
 clear hs
 have hl:=h.lo
 obtain ⟨X,hX,KA,HX,hbw,HHB,HGB,HPH,HPB,HMH,HS,HM⟩:=h.dL x
 obtain ⟨b0,b1,b2,b3,b4,b5,b6⟩:=aF HX.o
 rw [HSU.o] at b6
 clear h
 obtain ⟨gd,cd,ga,ca,g1,c1,c2,HB,HO⟩:=HM.o.op
 clear G B
 have E:Hid (c.iD x=c.pop.pop):=hide (by unfold Pl.Mc.iD;rw [HSU.o,hf,hf2];rfl)
 have HG1:=hide HG.o.pop
 have HG2:=hide HG1.o.pop
 have HP:=Pl.kH HG.o
 have HP2:=Pl.kH HG1.o
 go_enter func81,ntmps81
 go_wp2_with (first|(go_at_call 123;have z9:=aW;refine (E5 _ lo mid hi p aT c.pop aW.o HG1.o).mono ?_;rintro e9 W_2 ⟨rfl,kW,hm9,hb9⟩;obtain ⟨dM,ql,gX⟩:=hb9.nx bg HHB bY bI;clear hb9;have gZ:=hide hm9;obtain ⟨wH,wK,wI,wL,yc,yK,yJ,aN,iq⟩:=hm9.op;obtain ⟨xB,xA,xy,uN,sD,xx,xw,xu⟩:=aN.o.c8;have yx:=aN.o.frozen 0;have yw:=aN.o.frozen 1;have yu:=aN.o.frozen 2;have vP:=aN.o.frozen 3;have tu:=aN.o.frozen 4;have yt:=aN.o.frozen 5;have yl:=aN.o.frozen 6;have yj:=aN.o.frozen 7;clear b0 b1 b2 b3 b4 b5 b6;obtain ⟨b0,b1,b2,b3,b4,b5,b6⟩:=aF dM.o;rw [HSU.o] at b6)|(go_at_call 41;have z9:=gZ;refine st (bK _ lo mid hi p kW _ gZ.o) ?_;rw [hf2])|(go_at_call 123;refine (E5 _ lo mid hi p g2 c HM.o HG.o).mono ?_;rintro e9 W_1 ⟨rfl,aT,hm9,hb9⟩;obtain ⟨bg,bY,bI⟩:=hb9.nx HX HHB HGB HS;clear hb9;have aW:=hide hm9;obtain ⟨bQ,bU,bT,bV,eu,eP,eG,aX,bu⟩:=hm9.op;have kC:=aX.o.k3;have F5:=aX.o.frozen 3;clear b0 b1 b2 b3 b4 b5 b6;obtain ⟨b0,b1,b2,b3,b4,b5,b6⟩:=aF bg.o;rw [HSU.o] at b6)|(go_at_call 41;refine st (bK _ lo mid hi p aT _ aW.o) ?_;rw [hf]))
 first|go_end0|refine bodyPost_ret (results_none rfl _ _ _) rfl ?_
 exact ⟨rfl,kW,by rw [E.o];exact gZ.o,gX.o⟩
theorem Fg (w:World) (lo mid hi p g2:Nat) (c:Pl.Mc) (x:Pl.In) (h:MAt w lo mid hi p g2 c) (G:Pl.GM c) (B:Pl.InB x) (hs:x.s=1) (hf:c.pop.fine=true) (hf2:c.pop.pop.fine=true) :
  Calls prog 81 #[.pointer (some ⟨p,0,none⟩),.agg (inX x)] w fun e w'=>e=.returned (.tuple #[])∧∃g3,MAt w' lo mid hi p g3 (c.iD x)∧Since w lo hi g2 w' g3:=by
 have HG:=hide G
 have HI:=hide B
 have HSU:=hide hs
 clear hs
 have hl:=h.lo
 obtain ⟨X,hX,KA,HX,hbw,HHB,HGB,HPH,HPB,HMH,HS,HM⟩:=h.dL x
 obtain ⟨b0,b1,b2,b3,b4,b5,b6⟩:=aF HX.o
 rw [HSU.o] at b6
 clear h
 obtain ⟨gd,cd,ga,ca,g1,c1,c2,HB,HO⟩:=HM.o.op
 clear G B
 have E:Hid (c.iD x=(c.pop.pop.aJ c.pop.dV).dh (Pl.bJ (c.pop.pop.aJ c.pop.dV).r (c.dV%1024))):=hide (by unfold Pl.Mc.iD;rw [HSU.o,hf,hf2];rfl)
 have HG1:=hide HG.o.pop
 have HG2:=hide HG1.o.pop
 have HP:=Pl.kH HG.o
 have HP2:=Pl.kH HG1.o
 have hmm:=Pl.Qh c.dV
 have HGP:=hide (HG2.o.aJ HP2.1 HP2.2).g
 have HW:=fun gd cd ga ca w9 hr hh=>GI w9 lo mid gd cd ga ca (c.pop.pop.aJ c.pop.dV).r (c.dV%1024) hr hh HGP.o (by omega) (by omega)
 obtain ⟨R,hR⟩:∃R,Pl.bJ (c.pop.pop.aJ c.pop.dV).r (c.dV%1024)=R:=⟨_,rfl⟩
 rw [hR] at E
 simp only [hR,iK] at HW
 clear hR
 go_enter func81,ntmps81
 go_wp2_with (first|(go_at_call 84;have z9:=gZ;refine (HW wH wK wI wL _ HRY.o HMY.o).mono ?_;rintro e9 W_9 ⟨rfl,hr9,hk9⟩;have jU:=hide (HOY.o.regs hr9 hk9);have aG:=hide (HBY.o.regs hk9 iq.o.p0);have jT:=hide (HSY.o.ai hk9 (Nat.le_refl _) HMH.o);clear hr9 hk9;obtain ⟨u0,u1,u2,u3,u4,u5,u6,u7,_⟩:=aG.o.cells;have q0:=aG.o.frozen 0;have q1:=aG.o.frozen 1;have q2:=aG.o.frozen 2;have q3:=aG.o.frozen 3;have q4:=aG.o.frozen 4;have q5:=aG.o.frozen 5;have q6:=aG.o.frozen 6;have q7:=aG.o.frozen 7)|(go_at_call 123;have z9:=aW;refine (E5 _ lo mid hi p aT c.pop aW.o HG1.o).mono ?_;rintro e9 W_2 ⟨rfl,kW,hm9,hb9⟩;obtain ⟨dM,ql,gX⟩:=hb9.nx bg HHB bY bI;clear hb9;have gZ:=hide hm9;obtain ⟨wH,wK,wI,wL,yc,yK,yJ,aN,iq⟩:=hm9.op;obtain ⟨xB,xA,xy,uN,sD,xx,xw,xu⟩:=aN.o.c8;have yx:=aN.o.frozen 0;have yw:=aN.o.frozen 1;have yu:=aN.o.frozen 2;have vP:=aN.o.frozen 3;have tu:=aN.o.frozen 4;have yt:=aN.o.frozen 5;have yl:=aN.o.frozen 6;have yj:=aN.o.frozen 7;clear b0 b1 b2 b3 b4 b5 b6;obtain ⟨b0,b1,b2,b3,b4,b5,b6⟩:=aF dM.o;rw [HSU.o] at b6;have HBY:=hide (aN.o.cP c.pop.dV);have HOY:=hide (iq.o.own (ak W_2 p 3 (iv c.pop.dV)));have HSY:=hide (gX.o.set p 3 (iv c.pop.dV) HPH.o);have HRY:=hide (MO.reg (r:=(c.pop.pop.aJ c.pop.dV).r) HOY.o);have HMY:Hid (mid≤(W_2.setCell ⟨p,3,none⟩ (iv c.pop.dV)).heap.size):=hide (Nat.le_trans HMH.o HOY.o.hh))|(go_at_call 41;have z9:=gZ;refine st (bK _ lo mid hi p kW _ gZ.o) ?_;rw [hf2])|(go_at_call 123;refine (E5 _ lo mid hi p g2 c HM.o HG.o).mono ?_;rintro e9 W_1 ⟨rfl,aT,hm9,hb9⟩;obtain ⟨bg,bY,bI⟩:=hb9.nx HX HHB HGB HS;clear hb9;have aW:=hide hm9;obtain ⟨bQ,bU,bT,bV,eu,eP,eG,aX,bu⟩:=hm9.op;have kC:=aX.o.k3;have F5:=aX.o.frozen 3;clear b0 b1 b2 b3 b4 b5 b6;obtain ⟨b0,b1,b2,b3,b4,b5,b6⟩:=aF bg.o;rw [HSU.o] at b6)|(go_at_call 41;refine st (bK _ lo mid hi p aT _ aW.o) ?_;rw [hf]))
 first|go_end0|refine bodyPost_ret (results_none rfl _ _ _) rfl ?_
 exact ⟨rfl,kW,by rw [E.o];exact MAt.laid aG.o jU.o,fG jT.o HPH.o _ _ _ _ _ _ _ _⟩
theorem Fh (w:World) (lo mid hi p g2:Nat) (c:Pl.Mc) (x:Pl.In) (h:MAt w lo mid hi p g2 c) (G:Pl.GM c) (B:Pl.InB x) (hs:x.s=2) :
  Calls prog 81 #[.pointer (some ⟨p,0,none⟩),.agg (inX x)] w fun e w'=>e=.returned (.tuple #[])∧∃g3,MAt w' lo mid hi p g3 (c.iD x)∧Since w lo hi g2 w' g3:=by
 have HG:=hide G
 have HI:=hide B
 have HSU:=hide hs
 clear hs
 have hl:=h.lo
 obtain ⟨X,hX,KA,HX,hbw,HHB,HGB,HPH,HPB,HMH,HS,HM⟩:=h.dL x
 obtain ⟨b0,b1,b2,b3,b4,b5,b6⟩:=aF HX.o
 rw [HSU.o] at b6
 clear h
 obtain ⟨gd,cd,ga,ca,g1,c1,c2,HB,HO⟩:=HM.o.op
 clear G B
 have E:Hid (c.iD x=c):=hide (by unfold Pl.Mc.iD;rw [HSU.o];rfl)
 go_enter func81,ntmps81
 go_wp2_with fail
 first|go_end0|refine bodyPost_ret (results_none rfl _ _ _) rfl ?_
 exact ⟨rfl,g2,by rw [E.o];exact HM.o,HS.o⟩
theorem Bo (w:World) (lo mid hi p g2:Nat) (c:Pl.Mc) (x:Pl.In) (h:MAt w lo mid hi p g2 c) (G:Pl.GM c) (B:Pl.InB x) (hs:x.s=4) :
  Calls prog 81 #[.pointer (some ⟨p,0,none⟩),.agg (inX x)] w fun e w'=>e=.returned (.tuple #[])∧∃g3,MAt w' lo mid hi p g3 (c.iD x)∧Since w lo hi g2 w' g3:=by
 have HG:=hide G
 have HI:=hide B
 have HSU:=hide hs
 clear hs
 have hl:=h.lo
 obtain ⟨X,hX,KA,HX,hbw,HHB,HGB,HPH,HPB,HMH,HS,HM⟩:=h.dL x
 obtain ⟨b0,b1,b2,b3,b4,b5,b6⟩:=aF HX.o
 rw [HSU.o] at b6
 clear h
 obtain ⟨gd,cd,ga,ca,g1,c1,c2,HB,HO⟩:=HM.o.op
 clear G B
 have E:Hid (c.iD x=c.raise (18+x.r)):=hide (by unfold Pl.Mc.iD;rw [HSU.o];rfl)
 have r0:=HI.o.r0
 have r1:=HI.o.r1
 go_enter func81,ntmps81
 go_wp2_with (go_at_call 124;refine (Jc _ lo mid hi p g2 c (18+x.r) HM.o).mono ?_;rintro e9 W_1 ⟨rfl,aT,hm9,hb9⟩;obtain ⟨bg,bY,bI⟩:=hb9.nx HX HHB HGB HS;clear hb9;have aW:=hide hm9;obtain ⟨bQ,bU,bT,bV,eu,eP,eG,aX,bu⟩:=hm9.op;clear b0 b1 b2 b3 b4 b5 b6;obtain ⟨b0,b1,b2,b3,b4,b5,b6⟩:=aF bg.o;rw [HSU.o] at b6)
 first|go_end0|refine bodyPost_ret (results_none rfl _ _ _) rfl ?_
 exact ⟨rfl,aT,by rw [E.o];exact aW.o,bI.o⟩
end Go.Proofs.YtblddehlkaolbaaGreatDoor
