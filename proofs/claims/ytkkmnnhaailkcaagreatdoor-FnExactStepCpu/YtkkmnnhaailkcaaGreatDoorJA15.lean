/- Part 15 of what the last text leans on. -/
import Derived.Test.YtkkmnnhaailkcaaGreatDoorJA12
import Derived.Test.YtkkmnnhaailkcaaGreatDoorJA14
set_option maxRecDepth 100000
set_option maxHeartbeats 16000000
namespace Go.Proofs.YtkkmnnhaailkcaaGreatDoor
open Go.RowKit Go.Proofs.Tryz
set_option linter.unusedVariables false
namespace Pl
theorem ML:∀j:Nat,j<32→fl (bits .and .i64 (j:Int) 16 != 0) 1=(j:Int)/16%2:=by decide +kernel
theorem MJ:∀j:Nat,j<32→∀C:Nat,C<2→bits .or .i64 (bits .and .i64 (j:Int) 4) ((C:Int)*17)=fl ((j:Int)/4%2==1) 4+(C:Int)*17∧fl ((j:Int)/4%2==1) 4+(C:Int)*17≤31∧0≤fl ((j:Int)/4%2==1) 4+(C:Int)*17:=by decide +kernel
theorem Vh:∀C:Nat,C<2→bits .or .i64 0 ((C:Int)*17)=(C:Int)*17:=by decide +kernel
theorem qo {v:Int} (h:bcd v=true):okv 1 v=true:=by have:=qh h;simp [okv,top];omega
end Pl
theorem FH (w:World) (lo mid hi p g2:Nat) (c:Pl.Mc) (x:Pl.In) (h:MAt w lo mid hi p g2 c) (G:Pl.GM c) (B:Pl.InB x) (hq1:Pl.bcd (el c.r.xs x.r.toNat%256)=false) (hq2:Pl.bcd (el c.r.xs x.k.toNat%256)=false) :
  Calls prog 114 #[.pointer (some ⟨p,0,none⟩),.agg (inX x)] w fun e w'=>e=.returned (.tuple #[])∧∃g3,MAt w' lo mid hi p g3 (c.jw x)∧Since w lo hi g2 w' g3:=by
 have HG:=hide G
 have HI:=hide B
 have hl:=h.lo
 obtain ⟨X,hX,KA,HX,hbw,HHB,HGB,HPH,HPB,HMH,HS,HM⟩:=h.dL x
 obtain ⟨b0,b1,b2,b3,b4,b5,b6⟩:=aF HX.o
 clear h
 obtain ⟨gd,cd,ga,ca,g1,c1,c2,HB,HO⟩:=HM.o.op
 have t0:=HB.o.k0
 clear G B
 have r0:=HI.o.r0
 have r1:=HI.o.r1
 have r4:x.r<4:=by omega
 have k0:=HI.o.k0
 have k1:=HI.o.k1
 have k4:x.k<4:=by omega
 have HR4:Hid (x.r.toNat<4):=hide (by omega)
 have HK4:Hid (x.k.toNat<4):=hide (by omega)
 obtain ⟨D1,hD1⟩:∃D,el c.r.xs x.r.toNat=D:=⟨_,rfl⟩
 obtain ⟨D2,hD2⟩:∃D,el c.r.xs x.k.toNat=D:=⟨_,rfl⟩
 obtain ⟨hc1,_⟩:=jH HO.o.d x.r.toNat (by rw [HG.o.g.d4];exact HR4.o)
 obtain ⟨hc2,_⟩:=jH HO.o.d x.k.toNat (by rw [HG.o.g.d4];exact HK4.o)
 rw [hD1] at hc1
 rw [hD2] at hc2
 have m1:=Pl.dK D1
 have m2:=Pl.dK D2
 obtain ⟨A,hA⟩:∃A,D1%256=A:=⟨_,rfl⟩
 obtain ⟨Bb,hB2⟩:∃A,D2%256=A:=⟨_,rfl⟩
 rw [hA] at m1
 rw [hB2] at m2
 have E:Hid (c.jw x=c.kL x A Bb):=hide (by unfold Pl.Mc.jw;rw [hD1,hD2,hA,hB2])
 rw [hD1,hA] at hq1
 rw [hD2,hB2] at hq2
 clear hD1 hD2 hA hB2
 have E2:Hid (c.kL x A Bb=c.vec 4):=hide (by unfold Pl.Mc.kL;rw [hq1,hq2];rfl)
 have KB:=hide (ae (ae (Kept.refl 0 0 X)))
 have HM_B:=hide (HM.o.any KB.o)
 have HB_B:=hide (HB.o.any KB.o)
 have HO_B:=hide (HO.o.any KB.o)
 have HX_B:=hide (HX.o.af KB.o)
 have HS_B:=hide (HS.o.any KB.o)
 obtain ⟨t0_B,t1_B,t2_B,t3_B,t4_B,t5_B,t6_B,t7_B,t8_B,t9_B,t10_B,t11_B,t12_B,t13_B,t14_B,t15_B⟩:=HB_B.o.cells
 clear t0_B t1_B t2_B t3_B t4_B t5_B t6_B t7_B t8_B t9_B t10_B t12_B t13_B t14_B t15_B
 have f11_B:=HB_B.o.frozen 11
 go_enter func114,ntmps114
 go_wp2_with fail
 go_region
 go_wp2_with fail
 go_region
 go_wp2_with (go_at_call 154;refine st (jK _ _) ?_;first|rw [hq1]|rw [hq2])
 first|go_end0|refine bodyPost_ret (results_none rfl _ _ _) rfl ?_
 exact ⟨rfl,g2,by rw [E.o,E2.o];exact HM_B.o.cV 4,HS_B.o.set p 11 _ HPH.o⟩
theorem FD (w:World) (lo mid hi p g2:Nat) (c:Pl.Mc) (x:Pl.In) (h:MAt w lo mid hi p g2 c) (G:Pl.GM c) (B:Pl.InB x) (hq1:Pl.bcd (el c.r.xs x.r.toNat%256)=false) (hq2:Pl.bcd (el c.r.xs x.k.toNat%256)=true) :
  Calls prog 114 #[.pointer (some ⟨p,0,none⟩),.agg (inX x)] w fun e w'=>e=.returned (.tuple #[])∧∃g3,MAt w' lo mid hi p g3 (c.jw x)∧Since w lo hi g2 w' g3:=by
 have HG:=hide G
 have HI:=hide B
 have hl:=h.lo
 obtain ⟨X,hX,KA,HX,hbw,HHB,HGB,HPH,HPB,HMH,HS,HM⟩:=h.dL x
 obtain ⟨b0,b1,b2,b3,b4,b5,b6⟩:=aF HX.o
 clear h
 obtain ⟨gd,cd,ga,ca,g1,c1,c2,HB,HO⟩:=HM.o.op
 have t0:=HB.o.k0
 clear G B
 have r0:=HI.o.r0
 have r1:=HI.o.r1
 have r4:x.r<4:=by omega
 have k0:=HI.o.k0
 have k1:=HI.o.k1
 have k4:x.k<4:=by omega
 have HR4:Hid (x.r.toNat<4):=hide (by omega)
 have HK4:Hid (x.k.toNat<4):=hide (by omega)
 obtain ⟨D1,hD1⟩:∃D,el c.r.xs x.r.toNat=D:=⟨_,rfl⟩
 obtain ⟨D2,hD2⟩:∃D,el c.r.xs x.k.toNat=D:=⟨_,rfl⟩
 obtain ⟨hc1,_⟩:=jH HO.o.d x.r.toNat (by rw [HG.o.g.d4];exact HR4.o)
 obtain ⟨hc2,_⟩:=jH HO.o.d x.k.toNat (by rw [HG.o.g.d4];exact HK4.o)
 rw [hD1] at hc1
 rw [hD2] at hc2
 have m1:=Pl.dK D1
 have m2:=Pl.dK D2
 obtain ⟨A,hA⟩:∃A,D1%256=A:=⟨_,rfl⟩
 obtain ⟨Bb,hB2⟩:∃A,D2%256=A:=⟨_,rfl⟩
 rw [hA] at m1
 rw [hB2] at m2
 have E:Hid (c.jw x=c.kL x A Bb):=hide (by unfold Pl.Mc.jw;rw [hD1,hD2,hA,hB2])
 rw [hD1,hA] at hq1
 rw [hD2,hB2] at hq2
 clear hD1 hD2 hA hB2
 have E2:Hid (c.kL x A Bb=c.vec 4):=hide (by unfold Pl.Mc.kL;rw [hq1,hq2];rfl)
 have KB:=hide (ae (ae (Kept.refl 0 0 X)))
 have HM_B:=hide (HM.o.any KB.o)
 have HB_B:=hide (HB.o.any KB.o)
 have HO_B:=hide (HO.o.any KB.o)
 have HX_B:=hide (HX.o.af KB.o)
 have HS_B:=hide (HS.o.any KB.o)
 obtain ⟨t0_B,t1_B,t2_B,t3_B,t4_B,t5_B,t6_B,t7_B,t8_B,t9_B,t10_B,t11_B,t12_B,t13_B,t14_B,t15_B⟩:=HB_B.o.cells
 clear t0_B t1_B t2_B t3_B t4_B t5_B t6_B t7_B t8_B t9_B t10_B t12_B t13_B t14_B t15_B
 have f11_B:=HB_B.o.frozen 11
 go_enter func114,ntmps114
 go_wp2_with fail
 go_region
 go_wp2_with fail
 go_region
 go_wp2_with (go_at_call 154;refine st (jK _ _) ?_;first|rw [hq1]|rw [hq2])
 first|go_end0|refine bodyPost_ret (results_none rfl _ _ _) rfl ?_
 exact ⟨rfl,g2,by rw [E.o,E2.o];exact HM_B.o.cV 4,HS_B.o.set p 11 _ HPH.o⟩
theorem FC (w:World) (lo mid hi p g2:Nat) (c:Pl.Mc) (x:Pl.In) (h:MAt w lo mid hi p g2 c) (G:Pl.GM c) (B:Pl.InB x) (hq1:Pl.bcd (el c.r.xs x.r.toNat%256)=true) (hq2:Pl.bcd (el c.r.xs x.k.toNat%256)=false) :
  Calls prog 114 #[.pointer (some ⟨p,0,none⟩),.agg (inX x)] w fun e w'=>e=.returned (.tuple #[])∧∃g3,MAt w' lo mid hi p g3 (c.jw x)∧Since w lo hi g2 w' g3:=by
 have HG:=hide G
 have HI:=hide B
 have hl:=h.lo
 obtain ⟨X,hX,KA,HX,hbw,HHB,HGB,HPH,HPB,HMH,HS,HM⟩:=h.dL x
 obtain ⟨b0,b1,b2,b3,b4,b5,b6⟩:=aF HX.o
 clear h
 obtain ⟨gd,cd,ga,ca,g1,c1,c2,HB,HO⟩:=HM.o.op
 have t0:=HB.o.k0
 clear G B
 have r0:=HI.o.r0
 have r1:=HI.o.r1
 have r4:x.r<4:=by omega
 have k0:=HI.o.k0
 have k1:=HI.o.k1
 have k4:x.k<4:=by omega
 have HR4:Hid (x.r.toNat<4):=hide (by omega)
 have HK4:Hid (x.k.toNat<4):=hide (by omega)
 obtain ⟨D1,hD1⟩:∃D,el c.r.xs x.r.toNat=D:=⟨_,rfl⟩
 obtain ⟨D2,hD2⟩:∃D,el c.r.xs x.k.toNat=D:=⟨_,rfl⟩
 obtain ⟨hc1,_⟩:=jH HO.o.d x.r.toNat (by rw [HG.o.g.d4];exact HR4.o)
 obtain ⟨hc2,_⟩:=jH HO.o.d x.k.toNat (by rw [HG.o.g.d4];exact HK4.o)
 rw [hD1] at hc1
 rw [hD2] at hc2
 have m1:=Pl.dK D1
 have m2:=Pl.dK D2
 obtain ⟨A,hA⟩:∃A,D1%256=A:=⟨_,rfl⟩
 obtain ⟨Bb,hB2⟩:∃A,D2%256=A:=⟨_,rfl⟩
 rw [hA] at m1
 rw [hB2] at m2
 have E:Hid (c.jw x=c.kL x A Bb):=hide (by unfold Pl.Mc.jw;rw [hD1,hD2,hA,hB2])
 rw [hD1,hA] at hq1
 rw [hD2,hB2] at hq2
 clear hD1 hD2 hA hB2
 have E2:Hid (c.kL x A Bb=c.vec 4):=hide (by unfold Pl.Mc.kL;rw [hq1,hq2];rfl)
 have KB:=hide (ae (ae (Kept.refl 0 0 X)))
 have HM_B:=hide (HM.o.any KB.o)
 have HB_B:=hide (HB.o.any KB.o)
 have HO_B:=hide (HO.o.any KB.o)
 have HX_B:=hide (HX.o.af KB.o)
 have HS_B:=hide (HS.o.any KB.o)
 obtain ⟨t0_B,t1_B,t2_B,t3_B,t4_B,t5_B,t6_B,t7_B,t8_B,t9_B,t10_B,t11_B,t12_B,t13_B,t14_B,t15_B⟩:=HB_B.o.cells
 clear t0_B t1_B t2_B t3_B t4_B t5_B t6_B t7_B t8_B t9_B t10_B t12_B t13_B t14_B t15_B
 have f11_B:=HB_B.o.frozen 11
 go_enter func114,ntmps114
 go_wp2_with fail
 go_region
 go_wp2_with fail
 go_region
 go_wp2_with (go_at_call 154;refine st (jK _ _) ?_;first|rw [hq1]|rw [hq2])
 first|go_end0|refine bodyPost_ret (results_none rfl _ _ _) rfl ?_
 exact ⟨rfl,g2,by rw [E.o,E2.o];exact HM_B.o.cV 4,HS_B.o.set p 11 _ HPH.o⟩
theorem Fz (w:World) (lo mid hi p g2:Nat) (c:Pl.Mc) (x:Pl.In) (h:MAt w lo mid hi p g2 c) (G:Pl.GM c) (B:Pl.InB x) (hq1:Pl.bcd (el c.r.xs x.r.toNat%256)=true) (hq2:Pl.bcd (el c.r.xs x.k.toNat%256)=true) (hs:(x.s==1)=false) (hz:(Pl.aV c.xOf (el c.r.xs x.r.toNat%256) (el c.r.xs x.k.toNat%256)==0)=true) :
  Calls prog 114 #[.pointer (some ⟨p,0,none⟩),.agg (inX x)] w fun e w'=>e=.returned (.tuple #[])∧∃g3,MAt w' lo mid hi p g3 (c.jw x)∧Since w lo hi g2 w' g3:=by
 have HG:=hide G
 have HI:=hide B
 have hl:=h.lo
 obtain ⟨X,hX,KA,HX,hbw,HHB,HGB,HPH,HPB,HMH,HS,HM⟩:=h.dL x
 obtain ⟨b0,b1,b2,b3,b4,b5,b6⟩:=aF HX.o
 clear h
 obtain ⟨gd,cd,ga,ca,g1,c1,c2,HB,HO⟩:=HM.o.op
 have t0:=HB.o.k0
 clear G B
 have r0:=HI.o.r0
 have r1:=HI.o.r1
 have r4:x.r<4:=by omega
 have k0:=HI.o.k0
 have k1:=HI.o.k1
 have k4:x.k<4:=by omega
 have HR4:Hid (x.r.toNat<4):=hide (by omega)
 have HK4:Hid (x.k.toNat<4):=hide (by omega)
 obtain ⟨D1,hD1⟩:∃D,el c.r.xs x.r.toNat=D:=⟨_,rfl⟩
 obtain ⟨D2,hD2⟩:∃D,el c.r.xs x.k.toNat=D:=⟨_,rfl⟩
 obtain ⟨hc1,_⟩:=jH HO.o.d x.r.toNat (by rw [HG.o.g.d4];exact HR4.o)
 obtain ⟨hc2,_⟩:=jH HO.o.d x.k.toNat (by rw [HG.o.g.d4];exact HK4.o)
 rw [hD1] at hc1
 rw [hD2] at hc2
 have m1:=Pl.dK D1
 have m2:=Pl.dK D2
 obtain ⟨A,hA⟩:∃A,D1%256=A:=⟨_,rfl⟩
 obtain ⟨Bb,hB2⟩:∃A,D2%256=A:=⟨_,rfl⟩
 rw [hA] at m1
 rw [hB2] at m2
 have E:Hid (c.jw x=c.kL x A Bb):=hide (by unfold Pl.Mc.jw;rw [hD1,hD2,hA,hB2])
 rw [hD1,hA] at hq1 hz
 rw [hD2,hB2] at hq2 hz
 clear hD1 hD2 hA hB2
 obtain ⟨j,hj,hjf⟩:=Pl.lW (n:=32) HG.o.g.f0 (by have:=HG.o.g.f1;omega)
 have HXF:Hid (Pl.fl (bits .and .i64 c.r.f 16 != 0) 1=c.xOf):=hide (by unfold Pl.Mc.xOf;rw [hjf];exact Pl.ML j hj)
 have HX2:Hid (Pl.fB c.xOf A Bb=true):=hide (Pl.lh (by unfold Pl.Mc.xOf;omega) (by unfold Pl.Mc.xOf;omega) hq1 hq2)
 have EV:c.kF x.s A Bb=Pl.aV c.xOf A Bb:=by unfold Pl.Mc.kF;rw [hs];rfl
 have EC:c.lN x.s A Bb=Pl.aC c.xOf A Bb:=by unfold Pl.Mc.lN;rw [hs];rfl
 have HCb:=Pl.Ae c.xOf A Bb
 have HVb:=Pl.qo (Pl.yN HX2.o)
 obtain ⟨V,hV⟩:∃V,Pl.aV c.xOf A Bb=V:=⟨_,rfl⟩
 obtain ⟨C,hC⟩:∃C,Pl.aC c.xOf A Bb=C:=⟨_,rfl⟩
 rw [hV] at EV HVb hz
 rw [hC] at EC HCb
 obtain ⟨n,hn⟩:∃n:Nat,C=(n:Int):=⟨C.toNat,by omega⟩
 have hn2:n<2:=by omega
 have EF:c.nz x.s A Bb=Pl.fl (c.r.f/4%2==1) 4+C*17:=by unfold Pl.Mc.nz;rw [EV,EC,hz];simp
 obtain ⟨F,hF⟩:∃F,c.nz x.s A Bb=F:=⟨_,rfl⟩
 rw [hF] at EF
 have HFb:0≤F∧F≤31:=by
  rw [EF,hjf,hn];have q:=Pl.MJ j hj n hn2;exact ⟨q.2.2,q.2.1⟩
 have hcf:bits .or .i64 (bits .and .i64 c.r.f 4) (C*17)=F:=by rw [EF,hjf,hn];exact (Pl.MJ j hj n hn2).1
 have hC0:0≤C:=HCb.1
 have hC1:C≤1:=HCb.2
 have E2:Hid (c.kL x A Bb=(c.aB F).put 1 x.r V):=hide (by unfold Pl.Mc.kL;rw [hq1,hq2,EV,hF];rfl)
 have HVV:=hide HVb
 have HGF:=hide (HG.o.aB HFb.1 HFb.2).g
 have HHV:=hide hV
 have HHC:=hide hC
 clear hV hC EV EC EF hF HFb HCb HVb hn hjf hn2 hj
 obtain ⟨s0,s1,s2,s3,s4,s5,s6,s7,_⟩:=HB.o.cells
 have f0:=HB.o.fz
 clear s0
 go_enter func114,ntmps114
 go_wp2_with fail
 go_region
 go_wp2_with fail
 go_region
 go_wp2_with (first|(go_at_call 154;refine st (jK _ _) ?_;first|rw [hq1]|rw [hq2])|(go_at_call 146;refine st (dC _ _ _) ?_;rw [HXF.o])|(go_at_call 155;refine st (Dy _ _ _ _ HX2.o) ?_;rw [HHV.o,HHC.o])|(go_at_call 156;refine st (Dx _ _ _ _ HX2.o) ?_))
 have HBY:=hide ((HB.o.cF (F)).any (ae (ae (ae (Kept.refl 0 0 (X.setCell ⟨p,4,none⟩ (iv (F))))))))
 have HOY:=hide ((HO.o.own (ak _ p 4 (iv (F)))).any (ae (ae (ae (Kept.refl 0 0 (X.setCell ⟨p,4,none⟩ (iv (F))))))))
 have HSY:=hide ((HS.o.set p 4 (iv (F)) HPH.o).drew.drew.drew)
 have HXY:=hide ((HX.o.other p 4 (iv (F)) (by have:=HPB.o;omega)).af (ae (ae (ae (Kept.refl 0 0 (X.setCell ⟨p,4,none⟩ (iv (F))))))))
 have HRY:=hide (MO.reg (r:=(c.aB (F)).r) HOY.o)
 have HMY:Hid (mid≤(X.setCell ⟨p,4,none⟩ (iv (F))).drew.drew.drew.heap.size):=hide (Nat.le_trans HMH.o HOY.o.hh)
 have HPM:=HOY.o.p0
 have HNM:Hid (¬(lo≤w.heap.size∧w.heap.size<mid)):=hide (by have:=HHB.o;have:=HMH.o;omega)
 have HNP:Hid (¬(p≤w.heap.size∧w.heap.size<p+1)):=hide (by have:=HPB.o;omega)
 have SYD:=cellsS HBY.o HXY.o
 go_region_held3 (fun w'=>w'.cell? ⟨p,0,none⟩=some (.slice (some ⟨gd,0,none⟩) 4 cd)∧w'.cell? ⟨p,1,none⟩=some (.slice (some ⟨ga,0,none⟩) 4 ca)∧w'.cell? ⟨p,2,none⟩=some (iv (c.aB (F)).r.o)∧w'.cell? ⟨p,3,none⟩=some (iv (c.aB (F)).r.p)∧w'.cell? ⟨p,4,none⟩=some (iv (c.aB (F)).r.f)∧w'.cell? ⟨p,5,none⟩=some (iv (c.aB (F)).r.m)∧w'.cell? ⟨p,6,none⟩=some (.bool (c.aB (F)).r.s)∧w'.cell? ⟨p,7,none⟩=some (.bool (c.aB (F)).r.t)∧w'.cell? ⟨w.heap.size,1,none⟩=some (iv x.z)∧w'.cell? ⟨w.heap.size,2,none⟩=some (iv x.r)) (first|with_reducible exact SYD|with_reducible exact cellsS aG.o jd.o|exact cellsS (aG.o.laid (Pl.jr (c.aB (F)).r 1 x.r V)) (Blk.kept jd.o (MB.jb _ _ _ _ _ _ _ _) HNP.o)|go_keep) (first|(go_at_call 110;refine (qG _ lo mid gd cd ga ca (c.aB (F)).r 1 x.r V HRY.o HMY.o HGF.o HI.o.r0 HI.o.r1 HVV.o).mono ?_;unfold iK;rintro e9 W_9 ⟨rfl,hr9,hk9⟩;have jU:=hide (HOY.o.regs hr9 hk9);have aG:=hide (HBY.o.regs hk9 HPM);have jd:=hide (Blk.kept HXY.o hk9 HNM.o);have jT:=hide (HSY.o.ai hk9 (Nat.le_refl _) HMH.o);clear hr9 hk9;obtain ⟨u0,u1,u2,u3,u4,u5,u6,u7,_⟩:=aG.o.cells;have f0:=aG.o.frozen 0;have f1:=aG.o.frozen 1;have f2:=aG.o.frozen 2;have f3:=aG.o.frozen 3;have f4:=aG.o.frozen 4;have f5:=aG.o.frozen 5;have f6:=aG.o.frozen 6;have f7:=aG.o.frozen 7))
 go_wp2_with fail
 first|go_end0|refine bodyPost_ret (results_none rfl _ _ _) rfl ?_
 exact ⟨rfl,g2,by rw [E.o,E2.o];exact MAt.laid aG.o jU.o,fG jT.o HPH.o _ _ _ _ _ _ _ _⟩
theorem FB (w:World) (lo mid hi p g2:Nat) (c:Pl.Mc) (x:Pl.In) (h:MAt w lo mid hi p g2 c) (G:Pl.GM c) (B:Pl.InB x) (hq1:Pl.bcd (el c.r.xs x.r.toNat%256)=true) (hq2:Pl.bcd (el c.r.xs x.k.toNat%256)=true) (hs:(x.s==1)=false) (hz:(Pl.aV c.xOf (el c.r.xs x.r.toNat%256) (el c.r.xs x.k.toNat%256)==0)=false) :
  Calls prog 114 #[.pointer (some ⟨p,0,none⟩),.agg (inX x)] w fun e w'=>e=.returned (.tuple #[])∧∃g3,MAt w' lo mid hi p g3 (c.jw x)∧Since w lo hi g2 w' g3:=by
 have HG:=hide G
 have HI:=hide B
 have hl:=h.lo
 obtain ⟨X,hX,KA,HX,hbw,HHB,HGB,HPH,HPB,HMH,HS,HM⟩:=h.dL x
 obtain ⟨b0,b1,b2,b3,b4,b5,b6⟩:=aF HX.o
 clear h
 obtain ⟨gd,cd,ga,ca,g1,c1,c2,HB,HO⟩:=HM.o.op
 have t0:=HB.o.k0
 clear G B
 have r0:=HI.o.r0
 have r1:=HI.o.r1
 have r4:x.r<4:=by omega
 have k0:=HI.o.k0
 have k1:=HI.o.k1
 have k4:x.k<4:=by omega
 have HR4:Hid (x.r.toNat<4):=hide (by omega)
 have HK4:Hid (x.k.toNat<4):=hide (by omega)
 obtain ⟨D1,hD1⟩:∃D,el c.r.xs x.r.toNat=D:=⟨_,rfl⟩
 obtain ⟨D2,hD2⟩:∃D,el c.r.xs x.k.toNat=D:=⟨_,rfl⟩
 obtain ⟨hc1,_⟩:=jH HO.o.d x.r.toNat (by rw [HG.o.g.d4];exact HR4.o)
 obtain ⟨hc2,_⟩:=jH HO.o.d x.k.toNat (by rw [HG.o.g.d4];exact HK4.o)
 rw [hD1] at hc1
 rw [hD2] at hc2
 have m1:=Pl.dK D1
 have m2:=Pl.dK D2
 obtain ⟨A,hA⟩:∃A,D1%256=A:=⟨_,rfl⟩
 obtain ⟨Bb,hB2⟩:∃A,D2%256=A:=⟨_,rfl⟩
 rw [hA] at m1
 rw [hB2] at m2
 have E:Hid (c.jw x=c.kL x A Bb):=hide (by unfold Pl.Mc.jw;rw [hD1,hD2,hA,hB2])
 rw [hD1,hA] at hq1 hz
 rw [hD2,hB2] at hq2 hz
 clear hD1 hD2 hA hB2
 obtain ⟨j,hj,hjf⟩:=Pl.lW (n:=32) HG.o.g.f0 (by have:=HG.o.g.f1;omega)
 have HXF:Hid (Pl.fl (bits .and .i64 c.r.f 16 != 0) 1=c.xOf):=hide (by unfold Pl.Mc.xOf;rw [hjf];exact Pl.ML j hj)
 have HX2:Hid (Pl.fB c.xOf A Bb=true):=hide (Pl.lh (by unfold Pl.Mc.xOf;omega) (by unfold Pl.Mc.xOf;omega) hq1 hq2)
 have EV:c.kF x.s A Bb=Pl.aV c.xOf A Bb:=by unfold Pl.Mc.kF;rw [hs];rfl
 have EC:c.lN x.s A Bb=Pl.aC c.xOf A Bb:=by unfold Pl.Mc.lN;rw [hs];rfl
 have HCb:=Pl.Ae c.xOf A Bb
 have HVb:=Pl.qo (Pl.yN HX2.o)
 obtain ⟨V,hV⟩:∃V,Pl.aV c.xOf A Bb=V:=⟨_,rfl⟩
 obtain ⟨C,hC⟩:∃C,Pl.aC c.xOf A Bb=C:=⟨_,rfl⟩
 rw [hV] at EV HVb hz
 rw [hC] at EC HCb
 obtain ⟨n,hn⟩:∃n:Nat,C=(n:Int):=⟨C.toNat,by omega⟩
 have hn2:n<2:=by omega
 have EF:c.nz x.s A Bb=C*17:=by unfold Pl.Mc.nz;rw [EV,EC,hz];simp [Pl.fl]
 obtain ⟨F,hF⟩:∃F,c.nz x.s A Bb=F:=⟨_,rfl⟩
 rw [hF] at EF
 have HFb:0≤F∧F≤31:=by
  rw [EF,hn];omega
 have hcf:bits .or .i64 0 (C*17)=F:=by rw [EF,hn];exact Pl.Vh n hn2
 have hC0:0≤C:=HCb.1
 have hC1:C≤1:=HCb.2
 have E2:Hid (c.kL x A Bb=(c.aB F).put 1 x.r V):=hide (by unfold Pl.Mc.kL;rw [hq1,hq2,EV,hF];rfl)
 have HVV:=hide HVb
 have HGF:=hide (HG.o.aB HFb.1 HFb.2).g
 have HHV:=hide hV
 have HHC:=hide hC
 clear hV hC EV EC EF hF HFb HCb HVb hn hjf hn2 hj
 obtain ⟨s0,s1,s2,s3,s4,s5,s6,s7,_⟩:=HB.o.cells
 have f0:=HB.o.fz
 clear s0
 go_enter func114,ntmps114
 go_wp2_with fail
 go_region
 go_wp2_with fail
 go_region
 go_wp2_with (first|(go_at_call 154;refine st (jK _ _) ?_;first|rw [hq1]|rw [hq2])|(go_at_call 146;refine st (dC _ _ _) ?_;rw [HXF.o])|(go_at_call 155;refine st (Dy _ _ _ _ HX2.o) ?_;rw [HHV.o,HHC.o])|(go_at_call 156;refine st (Dx _ _ _ _ HX2.o) ?_))
 have HBY:=hide ((HB.o.cF (F)).any (ae (ae (ae (Kept.refl 0 0 (X.setCell ⟨p,4,none⟩ (iv (F))))))))
 have HOY:=hide ((HO.o.own (ak _ p 4 (iv (F)))).any (ae (ae (ae (Kept.refl 0 0 (X.setCell ⟨p,4,none⟩ (iv (F))))))))
 have HSY:=hide ((HS.o.set p 4 (iv (F)) HPH.o).drew.drew.drew)
 have HXY:=hide ((HX.o.other p 4 (iv (F)) (by have:=HPB.o;omega)).af (ae (ae (ae (Kept.refl 0 0 (X.setCell ⟨p,4,none⟩ (iv (F))))))))
 have HRY:=hide (MO.reg (r:=(c.aB (F)).r) HOY.o)
 have HMY:Hid (mid≤(X.setCell ⟨p,4,none⟩ (iv (F))).drew.drew.drew.heap.size):=hide (Nat.le_trans HMH.o HOY.o.hh)
 have HPM:=HOY.o.p0
 have HNM:Hid (¬(lo≤w.heap.size∧w.heap.size<mid)):=hide (by have:=HHB.o;have:=HMH.o;omega)
 have HNP:Hid (¬(p≤w.heap.size∧w.heap.size<p+1)):=hide (by have:=HPB.o;omega)
 have SYD:=cellsS HBY.o HXY.o
 go_region_held3 (fun w'=>w'.cell? ⟨p,0,none⟩=some (.slice (some ⟨gd,0,none⟩) 4 cd)∧w'.cell? ⟨p,1,none⟩=some (.slice (some ⟨ga,0,none⟩) 4 ca)∧w'.cell? ⟨p,2,none⟩=some (iv (c.aB (F)).r.o)∧w'.cell? ⟨p,3,none⟩=some (iv (c.aB (F)).r.p)∧w'.cell? ⟨p,4,none⟩=some (iv (c.aB (F)).r.f)∧w'.cell? ⟨p,5,none⟩=some (iv (c.aB (F)).r.m)∧w'.cell? ⟨p,6,none⟩=some (.bool (c.aB (F)).r.s)∧w'.cell? ⟨p,7,none⟩=some (.bool (c.aB (F)).r.t)∧w'.cell? ⟨w.heap.size,1,none⟩=some (iv x.z)∧w'.cell? ⟨w.heap.size,2,none⟩=some (iv x.r)) (first|with_reducible exact SYD|with_reducible exact cellsS aG.o jd.o|exact cellsS (aG.o.laid (Pl.jr (c.aB (F)).r 1 x.r V)) (Blk.kept jd.o (MB.jb _ _ _ _ _ _ _ _) HNP.o)|go_keep) (first|(go_at_call 110;refine (qG _ lo mid gd cd ga ca (c.aB (F)).r 1 x.r V HRY.o HMY.o HGF.o HI.o.r0 HI.o.r1 HVV.o).mono ?_;unfold iK;rintro e9 W_9 ⟨rfl,hr9,hk9⟩;have jU:=hide (HOY.o.regs hr9 hk9);have aG:=hide (HBY.o.regs hk9 HPM);have jd:=hide (Blk.kept HXY.o hk9 HNM.o);have jT:=hide (HSY.o.ai hk9 (Nat.le_refl _) HMH.o);clear hr9 hk9;obtain ⟨u0,u1,u2,u3,u4,u5,u6,u7,_⟩:=aG.o.cells;have f0:=aG.o.frozen 0;have f1:=aG.o.frozen 1;have f2:=aG.o.frozen 2;have f3:=aG.o.frozen 3;have f4:=aG.o.frozen 4;have f5:=aG.o.frozen 5;have f6:=aG.o.frozen 6;have f7:=aG.o.frozen 7))
 go_wp2_with fail
 first|go_end0|refine bodyPost_ret (results_none rfl _ _ _) rfl ?_
 exact ⟨rfl,g2,by rw [E.o,E2.o];exact MAt.laid aG.o jU.o,fG jT.o HPH.o _ _ _ _ _ _ _ _⟩
theorem Fq (w:World) (lo mid hi p g2:Nat) (c:Pl.Mc) (x:Pl.In) (h:MAt w lo mid hi p g2 c) (G:Pl.GM c) (B:Pl.InB x) (hq1:Pl.bcd (el c.r.xs x.r.toNat%256)=true) (hq2:Pl.bcd (el c.r.xs x.k.toNat%256)=true) (hs:x.s=1) (hz:(Pl.sV c.xOf (el c.r.xs x.r.toNat%256) (el c.r.xs x.k.toNat%256)==0)=true) :
  Calls prog 114 #[.pointer (some ⟨p,0,none⟩),.agg (inX x)] w fun e w'=>e=.returned (.tuple #[])∧∃g3,MAt w' lo mid hi p g3 (c.jw x)∧Since w lo hi g2 w' g3:=by
 have HG:=hide G
 have HI:=hide B
 have HSU:=hide hs
 clear hs
 have hl:=h.lo
 obtain ⟨X,hX,KA,HX,hbw,HHB,HGB,HPH,HPB,HMH,HS,HM⟩:=h.dL x
 obtain ⟨b0,b1,b2,b3,b4,b5,b6⟩:=aF HX.o
 rw [HSU.o] at b6
 clear h
 obtain ⟨gd,cd,ga,ca,g1,c1,c2,HB,HO⟩:=HM.o.op
 have t0:=HB.o.k0
 clear G B
 have r0:=HI.o.r0
 have r1:=HI.o.r1
 have r4:x.r<4:=by omega
 have k0:=HI.o.k0
 have k1:=HI.o.k1
 have k4:x.k<4:=by omega
 have HR4:Hid (x.r.toNat<4):=hide (by omega)
 have HK4:Hid (x.k.toNat<4):=hide (by omega)
 obtain ⟨D1,hD1⟩:∃D,el c.r.xs x.r.toNat=D:=⟨_,rfl⟩
 obtain ⟨D2,hD2⟩:∃D,el c.r.xs x.k.toNat=D:=⟨_,rfl⟩
 obtain ⟨hc1,_⟩:=jH HO.o.d x.r.toNat (by rw [HG.o.g.d4];exact HR4.o)
 obtain ⟨hc2,_⟩:=jH HO.o.d x.k.toNat (by rw [HG.o.g.d4];exact HK4.o)
 rw [hD1] at hc1
 rw [hD2] at hc2
 have m1:=Pl.dK D1
 have m2:=Pl.dK D2
 obtain ⟨A,hA⟩:∃A,D1%256=A:=⟨_,rfl⟩
 obtain ⟨Bb,hB2⟩:∃A,D2%256=A:=⟨_,rfl⟩
 rw [hA] at m1
 rw [hB2] at m2
 have E:Hid (c.jw x=c.kL x A Bb):=hide (by unfold Pl.Mc.jw;rw [hD1,hD2,hA,hB2])
 rw [hD1,hA] at hq1 hz
 rw [hD2,hB2] at hq2 hz
 clear hD1 hD2 hA hB2
 obtain ⟨j,hj,hjf⟩:=Pl.lW (n:=32) HG.o.g.f0 (by have:=HG.o.g.f1;omega)
 have HXF:Hid (Pl.fl (bits .and .i64 c.r.f 16 != 0) 1=c.xOf):=hide (by unfold Pl.Mc.xOf;rw [hjf];exact Pl.ML j hj)
 have HX2:Hid (Pl.fB c.xOf A Bb=true):=hide (Pl.lh (by unfold Pl.Mc.xOf;omega) (by unfold Pl.Mc.xOf;omega) hq1 hq2)
 have EV:c.kF x.s A Bb=Pl.sV c.xOf A Bb:=by unfold Pl.Mc.kF;rw [HSU.o];rfl
 have EC:c.lN x.s A Bb=Pl.sC c.xOf A Bb:=by unfold Pl.Mc.lN;rw [HSU.o];rfl
 have HCb:=Pl.CW c.xOf A Bb
 have HVb:=Pl.qo (Pl.xB HX2.o)
 obtain ⟨V,hV⟩:∃V,Pl.sV c.xOf A Bb=V:=⟨_,rfl⟩
 obtain ⟨C,hC⟩:∃C,Pl.sC c.xOf A Bb=C:=⟨_,rfl⟩
 rw [hV] at EV HVb hz
 rw [hC] at EC HCb
 obtain ⟨n,hn⟩:∃n:Nat,C=(n:Int):=⟨C.toNat,by omega⟩
 have hn2:n<2:=by omega
 have EF:c.nz x.s A Bb=Pl.fl (c.r.f/4%2==1) 4+C*17:=by unfold Pl.Mc.nz;rw [EV,EC,hz];simp
 obtain ⟨F,hF⟩:∃F,c.nz x.s A Bb=F:=⟨_,rfl⟩
 rw [hF] at EF
 have HFb:0≤F∧F≤31:=by
  rw [EF,hjf,hn];have q:=Pl.MJ j hj n hn2;exact ⟨q.2.2,q.2.1⟩
 have hcf:bits .or .i64 (bits .and .i64 c.r.f 4) (C*17)=F:=by rw [EF,hjf,hn];exact (Pl.MJ j hj n hn2).1
 have hC0:0≤C:=HCb.1
 have hC1:C≤1:=HCb.2
 have E2:Hid (c.kL x A Bb=(c.aB F).put 1 x.r V):=hide (by unfold Pl.Mc.kL;rw [hq1,hq2,EV,hF];rfl)
 have HVV:=hide HVb
 have HGF:=hide (HG.o.aB HFb.1 HFb.2).g
 have HHV:=hide hV
 have HHC:=hide hC
 clear hV hC EV EC EF hF HFb HCb HVb hn hjf hn2 hj
 obtain ⟨s0,s1,s2,s3,s4,s5,s6,s7,_⟩:=HB.o.cells
 have f0:=HB.o.fz
 clear s0
 go_enter func114,ntmps114
 go_wp2_with fail
 go_region
 go_wp2_with fail
 go_region
 go_wp2_with (first|(go_at_call 154;refine st (jK _ _) ?_;first|rw [hq1]|rw [hq2])|(go_at_call 146;refine st (dC _ _ _) ?_;rw [HXF.o])|(go_at_call 155;refine st (Dy _ _ _ _ HX2.o) ?_)|(go_at_call 156;refine st (Dx _ _ _ _ HX2.o) ?_;rw [HHV.o,HHC.o]))
 have HBY:=hide ((HB.o.cF (F)).any (ae (ae (ae (Kept.refl 0 0 (X.setCell ⟨p,4,none⟩ (iv (F))))))))
 have HOY:=hide ((HO.o.own (ak _ p 4 (iv (F)))).any (ae (ae (ae (Kept.refl 0 0 (X.setCell ⟨p,4,none⟩ (iv (F))))))))
 have HSY:=hide ((HS.o.set p 4 (iv (F)) HPH.o).drew.drew.drew)
 have HXY:=hide ((HX.o.other p 4 (iv (F)) (by have:=HPB.o;omega)).af (ae (ae (ae (Kept.refl 0 0 (X.setCell ⟨p,4,none⟩ (iv (F))))))))
 have HRY:=hide (MO.reg (r:=(c.aB (F)).r) HOY.o)
 have HMY:Hid (mid≤(X.setCell ⟨p,4,none⟩ (iv (F))).drew.drew.drew.heap.size):=hide (Nat.le_trans HMH.o HOY.o.hh)
 have HPM:=HOY.o.p0
 have HNM:Hid (¬(lo≤w.heap.size∧w.heap.size<mid)):=hide (by have:=HHB.o;have:=HMH.o;omega)
 have HNP:Hid (¬(p≤w.heap.size∧w.heap.size<p+1)):=hide (by have:=HPB.o;omega)
 have SYD:=cellsS HBY.o HXY.o
 go_region_held3 (fun w'=>w'.cell? ⟨p,0,none⟩=some (.slice (some ⟨gd,0,none⟩) 4 cd)∧w'.cell? ⟨p,1,none⟩=some (.slice (some ⟨ga,0,none⟩) 4 ca)∧w'.cell? ⟨p,2,none⟩=some (iv (c.aB (F)).r.o)∧w'.cell? ⟨p,3,none⟩=some (iv (c.aB (F)).r.p)∧w'.cell? ⟨p,4,none⟩=some (iv (c.aB (F)).r.f)∧w'.cell? ⟨p,5,none⟩=some (iv (c.aB (F)).r.m)∧w'.cell? ⟨p,6,none⟩=some (.bool (c.aB (F)).r.s)∧w'.cell? ⟨p,7,none⟩=some (.bool (c.aB (F)).r.t)∧w'.cell? ⟨w.heap.size,1,none⟩=some (iv x.z)∧w'.cell? ⟨w.heap.size,2,none⟩=some (iv x.r)) (first|with_reducible exact SYD|with_reducible exact cellsS aG.o jd.o|exact cellsS (aG.o.laid (Pl.jr (c.aB (F)).r 1 x.r V)) (Blk.kept jd.o (MB.jb _ _ _ _ _ _ _ _) HNP.o)|go_keep) (first|(go_at_call 110;refine (qG _ lo mid gd cd ga ca (c.aB (F)).r 1 x.r V HRY.o HMY.o HGF.o HI.o.r0 HI.o.r1 HVV.o).mono ?_;unfold iK;rintro e9 W_9 ⟨rfl,hr9,hk9⟩;have jU:=hide (HOY.o.regs hr9 hk9);have aG:=hide (HBY.o.regs hk9 HPM);have jd:=hide (Blk.kept HXY.o hk9 HNM.o);have jT:=hide (HSY.o.ai hk9 (Nat.le_refl _) HMH.o);clear hr9 hk9;obtain ⟨u0,u1,u2,u3,u4,u5,u6,u7,_⟩:=aG.o.cells;have f0:=aG.o.frozen 0;have f1:=aG.o.frozen 1;have f2:=aG.o.frozen 2;have f3:=aG.o.frozen 3;have f4:=aG.o.frozen 4;have f5:=aG.o.frozen 5;have f6:=aG.o.frozen 6;have f7:=aG.o.frozen 7))
 go_wp2_with fail
 first|go_end0|refine bodyPost_ret (results_none rfl _ _ _) rfl ?_
 exact ⟨rfl,g2,by rw [E.o,E2.o];exact MAt.laid aG.o jU.o,fG jT.o HPH.o _ _ _ _ _ _ _ _⟩
theorem Fv (w:World) (lo mid hi p g2:Nat) (c:Pl.Mc) (x:Pl.In) (h:MAt w lo mid hi p g2 c) (G:Pl.GM c) (B:Pl.InB x) (hq1:Pl.bcd (el c.r.xs x.r.toNat%256)=true) (hq2:Pl.bcd (el c.r.xs x.k.toNat%256)=true) (hs:x.s=1) (hz:(Pl.sV c.xOf (el c.r.xs x.r.toNat%256) (el c.r.xs x.k.toNat%256)==0)=false) :
  Calls prog 114 #[.pointer (some ⟨p,0,none⟩),.agg (inX x)] w fun e w'=>e=.returned (.tuple #[])∧∃g3,MAt w' lo mid hi p g3 (c.jw x)∧Since w lo hi g2 w' g3:=by
 have HG:=hide G
 have HI:=hide B
 have HSU:=hide hs
 clear hs
 have hl:=h.lo
 obtain ⟨X,hX,KA,HX,hbw,HHB,HGB,HPH,HPB,HMH,HS,HM⟩:=h.dL x
 obtain ⟨b0,b1,b2,b3,b4,b5,b6⟩:=aF HX.o
 rw [HSU.o] at b6
 clear h
 obtain ⟨gd,cd,ga,ca,g1,c1,c2,HB,HO⟩:=HM.o.op
 have t0:=HB.o.k0
 clear G B
 have r0:=HI.o.r0
 have r1:=HI.o.r1
 have r4:x.r<4:=by omega
 have k0:=HI.o.k0
 have k1:=HI.o.k1
 have k4:x.k<4:=by omega
 have HR4:Hid (x.r.toNat<4):=hide (by omega)
 have HK4:Hid (x.k.toNat<4):=hide (by omega)
 obtain ⟨D1,hD1⟩:∃D,el c.r.xs x.r.toNat=D:=⟨_,rfl⟩
 obtain ⟨D2,hD2⟩:∃D,el c.r.xs x.k.toNat=D:=⟨_,rfl⟩
 obtain ⟨hc1,_⟩:=jH HO.o.d x.r.toNat (by rw [HG.o.g.d4];exact HR4.o)
 obtain ⟨hc2,_⟩:=jH HO.o.d x.k.toNat (by rw [HG.o.g.d4];exact HK4.o)
 rw [hD1] at hc1
 rw [hD2] at hc2
 have m1:=Pl.dK D1
 have m2:=Pl.dK D2
 obtain ⟨A,hA⟩:∃A,D1%256=A:=⟨_,rfl⟩
 obtain ⟨Bb,hB2⟩:∃A,D2%256=A:=⟨_,rfl⟩
 rw [hA] at m1
 rw [hB2] at m2
 have E:Hid (c.jw x=c.kL x A Bb):=hide (by unfold Pl.Mc.jw;rw [hD1,hD2,hA,hB2])
 rw [hD1,hA] at hq1 hz
 rw [hD2,hB2] at hq2 hz
 clear hD1 hD2 hA hB2
 obtain ⟨j,hj,hjf⟩:=Pl.lW (n:=32) HG.o.g.f0 (by have:=HG.o.g.f1;omega)
 have HXF:Hid (Pl.fl (bits .and .i64 c.r.f 16 != 0) 1=c.xOf):=hide (by unfold Pl.Mc.xOf;rw [hjf];exact Pl.ML j hj)
 have HX2:Hid (Pl.fB c.xOf A Bb=true):=hide (Pl.lh (by unfold Pl.Mc.xOf;omega) (by unfold Pl.Mc.xOf;omega) hq1 hq2)
 have EV:c.kF x.s A Bb=Pl.sV c.xOf A Bb:=by unfold Pl.Mc.kF;rw [HSU.o];rfl
 have EC:c.lN x.s A Bb=Pl.sC c.xOf A Bb:=by unfold Pl.Mc.lN;rw [HSU.o];rfl
 have HCb:=Pl.CW c.xOf A Bb
 have HVb:=Pl.qo (Pl.xB HX2.o)
 obtain ⟨V,hV⟩:∃V,Pl.sV c.xOf A Bb=V:=⟨_,rfl⟩
 obtain ⟨C,hC⟩:∃C,Pl.sC c.xOf A Bb=C:=⟨_,rfl⟩
 rw [hV] at EV HVb hz
 rw [hC] at EC HCb
 obtain ⟨n,hn⟩:∃n:Nat,C=(n:Int):=⟨C.toNat,by omega⟩
 have hn2:n<2:=by omega
 have EF:c.nz x.s A Bb=C*17:=by unfold Pl.Mc.nz;rw [EV,EC,hz];simp [Pl.fl]
 obtain ⟨F,hF⟩:∃F,c.nz x.s A Bb=F:=⟨_,rfl⟩
 rw [hF] at EF
 have HFb:0≤F∧F≤31:=by
  rw [EF,hn];omega
 have hcf:bits .or .i64 0 (C*17)=F:=by rw [EF,hn];exact Pl.Vh n hn2
 have hC0:0≤C:=HCb.1
 have hC1:C≤1:=HCb.2
 have E2:Hid (c.kL x A Bb=(c.aB F).put 1 x.r V):=hide (by unfold Pl.Mc.kL;rw [hq1,hq2,EV,hF];rfl)
 have HVV:=hide HVb
 have HGF:=hide (HG.o.aB HFb.1 HFb.2).g
 have HHV:=hide hV
 have HHC:=hide hC
 clear hV hC EV EC EF hF HFb HCb HVb hn hjf hn2 hj
 obtain ⟨s0,s1,s2,s3,s4,s5,s6,s7,_⟩:=HB.o.cells
 have f0:=HB.o.fz
 clear s0
 go_enter func114,ntmps114
 go_wp2_with fail
 go_region
 go_wp2_with fail
 go_region
 go_wp2_with (first|(go_at_call 154;refine st (jK _ _) ?_;first|rw [hq1]|rw [hq2])|(go_at_call 146;refine st (dC _ _ _) ?_;rw [HXF.o])|(go_at_call 155;refine st (Dy _ _ _ _ HX2.o) ?_)|(go_at_call 156;refine st (Dx _ _ _ _ HX2.o) ?_;rw [HHV.o,HHC.o]))
 have HBY:=hide ((HB.o.cF (F)).any (ae (ae (ae (Kept.refl 0 0 (X.setCell ⟨p,4,none⟩ (iv (F))))))))
 have HOY:=hide ((HO.o.own (ak _ p 4 (iv (F)))).any (ae (ae (ae (Kept.refl 0 0 (X.setCell ⟨p,4,none⟩ (iv (F))))))))
 have HSY:=hide ((HS.o.set p 4 (iv (F)) HPH.o).drew.drew.drew)
 have HXY:=hide ((HX.o.other p 4 (iv (F)) (by have:=HPB.o;omega)).af (ae (ae (ae (Kept.refl 0 0 (X.setCell ⟨p,4,none⟩ (iv (F))))))))
 have HRY:=hide (MO.reg (r:=(c.aB (F)).r) HOY.o)
 have HMY:Hid (mid≤(X.setCell ⟨p,4,none⟩ (iv (F))).drew.drew.drew.heap.size):=hide (Nat.le_trans HMH.o HOY.o.hh)
 have HPM:=HOY.o.p0
 have HNM:Hid (¬(lo≤w.heap.size∧w.heap.size<mid)):=hide (by have:=HHB.o;have:=HMH.o;omega)
 have HNP:Hid (¬(p≤w.heap.size∧w.heap.size<p+1)):=hide (by have:=HPB.o;omega)
 have SYD:=cellsS HBY.o HXY.o
 go_region_held3 (fun w'=>w'.cell? ⟨p,0,none⟩=some (.slice (some ⟨gd,0,none⟩) 4 cd)∧w'.cell? ⟨p,1,none⟩=some (.slice (some ⟨ga,0,none⟩) 4 ca)∧w'.cell? ⟨p,2,none⟩=some (iv (c.aB (F)).r.o)∧w'.cell? ⟨p,3,none⟩=some (iv (c.aB (F)).r.p)∧w'.cell? ⟨p,4,none⟩=some (iv (c.aB (F)).r.f)∧w'.cell? ⟨p,5,none⟩=some (iv (c.aB (F)).r.m)∧w'.cell? ⟨p,6,none⟩=some (.bool (c.aB (F)).r.s)∧w'.cell? ⟨p,7,none⟩=some (.bool (c.aB (F)).r.t)∧w'.cell? ⟨w.heap.size,1,none⟩=some (iv x.z)∧w'.cell? ⟨w.heap.size,2,none⟩=some (iv x.r)) (first|with_reducible exact SYD|with_reducible exact cellsS aG.o jd.o|exact cellsS (aG.o.laid (Pl.jr (c.aB (F)).r 1 x.r V)) (Blk.kept jd.o (MB.jb _ _ _ _ _ _ _ _) HNP.o)|go_keep) (first|(go_at_call 110;refine (qG _ lo mid gd cd ga ca (c.aB (F)).r 1 x.r V HRY.o HMY.o HGF.o HI.o.r0 HI.o.r1 HVV.o).mono ?_;unfold iK;rintro e9 W_9 ⟨rfl,hr9,hk9⟩;have jU:=hide (HOY.o.regs hr9 hk9);have aG:=hide (HBY.o.regs hk9 HPM);have jd:=hide (Blk.kept HXY.o hk9 HNM.o);have jT:=hide (HSY.o.ai hk9 (Nat.le_refl _) HMH.o);clear hr9 hk9;obtain ⟨u0,u1,u2,u3,u4,u5,u6,u7,_⟩:=aG.o.cells;have f0:=aG.o.frozen 0;have f1:=aG.o.frozen 1;have f2:=aG.o.frozen 2;have f3:=aG.o.frozen 3;have f4:=aG.o.frozen 4;have f5:=aG.o.frozen 5;have f6:=aG.o.frozen 6;have f7:=aG.o.frozen 7))
 go_wp2_with fail
 first|go_end0|refine bodyPost_ret (results_none rfl _ _ _) rfl ?_
 exact ⟨rfl,g2,by rw [E.o,E2.o];exact MAt.laid aG.o jU.o,fG jT.o HPH.o _ _ _ _ _ _ _ _⟩
theorem XT (w:World) (lo mid hi p g2:Nat) (c:Pl.Mc) (x:Pl.In) (h:MAt w lo mid hi p g2 c) (G:Pl.GM c) (B:Pl.InB x) :
  Calls prog 114 #[.pointer (some ⟨p,0,none⟩),.agg (inX x)] w fun e w'=>e=.returned (.tuple #[])∧∃g3,MAt w' lo mid hi p g3 (c.jw x)∧Since w lo hi g2 w' g3:=by
 cases hq1:Pl.bcd (el c.r.xs x.r.toNat%256)
 ·cases hq2:Pl.bcd (el c.r.xs x.k.toNat%256)
  ·exact FH w lo mid hi p g2 c x h G B hq1 hq2
  ·exact FD w lo mid hi p g2 c x h G B hq1 hq2
 ·cases hq2:Pl.bcd (el c.r.xs x.k.toNat%256)
  ·exact FC w lo mid hi p g2 c x h G B hq1 hq2
  ·by_cases hs:x.s=1
   ·cases hz:(Pl.sV c.xOf (el c.r.xs x.r.toNat%256) (el c.r.xs x.k.toNat%256)==0)
    ·exact Fv w lo mid hi p g2 c x h G B hq1 hq2 hs hz
    ·exact Fq w lo mid hi p g2 c x h G B hq1 hq2 hs hz
   ·cases hz:(Pl.aV c.xOf (el c.r.xs x.r.toNat%256) (el c.r.xs x.k.toNat%256)==0)
    ·exact FB w lo mid hi p g2 c x h G B hq1 hq2 (by simpa using hs) hz
    ·exact Fz w lo mid hi p g2 c x h G B hq1 hq2 (by simpa using hs) hz
namespace Pl
theorem GI {v:Int} (h:okv 2 v=true):0≤v∧v≤65535:=by simp [okv,top] at h;omega
theorem GM.pop {c:Mc} (h:GM c):GM c.pop:=by
 have a3:=h.g.aw 3 (by omega)
 have q:=h.acc (iJ (.inl rfl) a3.1 a3.2)
 unfold Mc.pop
 cases (c.acc 1 2 (el c.r.ys 3) 0).fine
 ·exact q
 ·exact q.fM 3 (by omega) (by omega)
theorem kH {c:Mc} (h:GM c):0≤c.dV∧c.dV≤65535:=by
 have a3:=h.g.aw 3 (by omega)
 exact GI (h.jE (iJ (.inl rfl) a3.1 a3.2))
theorem Qe (a:Int):bits .and .i64 a 1023=a%1024:=by
 show IntKind.i64.wrap ((BitVec.ofInt 64 a &&& BitVec.ofInt 64 1023).toNat:Int)=_
 rw [BitVec.toNat_and,BitVec.toNat_ofInt,show (BitVec.ofInt 64 1023).toNat=2^10-1 from by decide,Nat.and_two_pow_sub_one_eq_mod,IntKind.wrap_i64]
 omega
end Pl
theorem Fb (w:World) (lo mid hi p g2:Nat) (c:Pl.Mc) (x:Pl.In) (h:MAt w lo mid hi p g2 c) (G:Pl.GM c) (B:Pl.InB x) (hs:x.s=0) :
  Calls prog 112 #[.pointer (some ⟨p,0,none⟩),.agg (inX x)] w fun e w'=>e=.returned (.tuple #[])∧∃g3,MAt w' lo mid hi p g3 (c.iD x)∧Since w lo hi g2 w' g3:=by
 have HG:=hide G
 have HI:=hide B
 have HSU:=hide hs
 clear hs
 have hl:=h.lo
 obtain ⟨X,hX,KA,HX,hbw,HHB,HGB,HPH,HPB,HMH,HS,HM⟩:=h.dL x
 obtain ⟨b0,b1,b2,b3,b4,b5,b6⟩:=aF HX.o
 rw [HSU.o] at b6
 clear h
 obtain ⟨gd,cd,ga,ca,g1,c1,c2,HB,HO⟩:=HM.o.op
 clear G B
 have E:Hid (c.iD x=c.pop.aJ c.dV):=hide (by unfold Pl.Mc.iD;rw [HSU.o];rfl)
 go_enter func112,ntmps112
 go_wp2_with (go_at_call 149;refine (EY _ lo mid hi p g2 c HM.o HG.o).mono ?_;rintro e9 W_1 ⟨rfl,aT,hm9,hb9⟩;obtain ⟨bg,bY,bI⟩:=hb9.nx HX HHB HGB HS;clear hb9;have aW:=hide hm9;obtain ⟨bQ,bU,bT,bV,eu,eP,eG,aX,bu⟩:=hm9.op;have kC:=aX.o.k3;have FY:=aX.o.frozen 3;clear b0 b1 b2 b3 b4 b5 b6;obtain ⟨b0,b1,b2,b3,b4,b5,b6⟩:=aF bg.o;rw [HSU.o] at b6)
 first|go_end0|refine bodyPost_ret (results_none rfl _ _ _) rfl ?_
 exact ⟨rfl,aT,by rw [E.o];exact aW.o.cP _,bI.o.set p 3 _ HPH.o⟩
theorem Bv (w:World) (lo mid hi p g2:Nat) (c:Pl.Mc) (x:Pl.In) (h:MAt w lo mid hi p g2 c) (G:Pl.GM c) (B:Pl.InB x) (hs:x.s=1) (hf:c.pop.fine=false) :
  Calls prog 112 #[.pointer (some ⟨p,0,none⟩),.agg (inX x)] w fun e w'=>e=.returned (.tuple #[])∧∃g3,MAt w' lo mid hi p g3 (c.iD x)∧Since w lo hi g2 w' g3:=by
 have HG:=hide G
 have HI:=hide B
 have HSU:=hide hs
 clear hs
 have hl:=h.lo
 obtain ⟨X,hX,KA,HX,hbw,HHB,HGB,HPH,HPB,HMH,HS,HM⟩:=h.dL x
 obtain ⟨b0,b1,b2,b3,b4,b5,b6⟩:=aF HX.o
 rw [HSU.o] at b6
 clear h
 obtain ⟨gd,cd,ga,ca,g1,c1,c2,HB,HO⟩:=HM.o.op
 clear G B
 have E:Hid (c.iD x=c.pop):=hide (by unfold Pl.Mc.iD;rw [HSU.o,hf];rfl)
 go_enter func112,ntmps112
 go_wp2_with (first|(go_at_call 149;refine (EY _ lo mid hi p g2 c HM.o HG.o).mono ?_;rintro e9 W_1 ⟨rfl,aT,hm9,hb9⟩;obtain ⟨bg,bY,bI⟩:=hb9.nx HX HHB HGB HS;clear hb9;have aW:=hide hm9;obtain ⟨bQ,bU,bT,bV,eu,eP,eG,aX,bu⟩:=hm9.op;have kC:=aX.o.k3;have FY:=aX.o.frozen 3;clear b0 b1 b2 b3 b4 b5 b6;obtain ⟨b0,b1,b2,b3,b4,b5,b6⟩:=aF bg.o;rw [HSU.o] at b6)|(go_at_call 68;refine st (bK _ lo mid hi p aT _ aW.o) ?_;rw [hf]))
 first|go_end0|refine bodyPost_ret (results_none rfl _ _ _) rfl ?_
 exact ⟨rfl,aT,by rw [E.o];exact aW.o,bI.o⟩
theorem Bq (w:World) (lo mid hi p g2:Nat) (c:Pl.Mc) (x:Pl.In) (h:MAt w lo mid hi p g2 c) (G:Pl.GM c) (B:Pl.InB x) (hs:x.s=1) (hf:c.pop.fine=true) (hf2:c.pop.pop.fine=false) :
  Calls prog 112 #[.pointer (some ⟨p,0,none⟩),.agg (inX x)] w fun e w'=>e=.returned (.tuple #[])∧∃g3,MAt w' lo mid hi p g3 (c.iD x)∧Since w lo hi g2 w' g3:=by
 have HG:=hide G
 have HI:=hide B
 have HSU:=hide hs
 clear hs
 have hl:=h.lo
 obtain ⟨X,hX,KA,HX,hbw,HHB,HGB,HPH,HPB,HMH,HS,HM⟩:=h.dL x
 obtain ⟨b0,b1,b2,b3,b4,b5,b6⟩:=aF HX.o
 rw [HSU.o] at b6
 clear h
 obtain ⟨gd,cd,ga,ca,g1,c1,c2,HB,HO⟩:=HM.o.op
 clear G B
 have E:Hid (c.iD x=c.pop.pop):=hide (by unfold Pl.Mc.iD;rw [HSU.o,hf,hf2];rfl)
 have HG1:=hide HG.o.pop
 have HG2:=hide HG1.o.pop
 have HP:=Pl.kH HG.o
 have HP2:=Pl.kH HG1.o
 go_enter func112,ntmps112
 go_wp2_with (first|(go_at_call 149;have z9:=aW;refine (EY _ lo mid hi p aT c.pop aW.o HG1.o).mono ?_;rintro e9 W_2 ⟨rfl,kV,hm9,hb9⟩;obtain ⟨dM,qj,gX⟩:=hb9.nx bg HHB bY bI;clear hb9;have gZ:=hide hm9;obtain ⟨wG,wJ,wH,wK,xY,yI,yH,aN,iq⟩:=hm9.op;obtain ⟨xy,xx,xw,uM,rZ,xu,xq,xn⟩:=aN.o.c8;have yu:=aN.o.frozen 0;have yt:=aN.o.frozen 1;have yl:=aN.o.frozen 2;have vO:=aN.o.frozen 3;have sZ:=aN.o.frozen 4;have yj:=aN.o.frozen 5;have yh:=aN.o.frozen 6;have yg:=aN.o.frozen 7;clear b0 b1 b2 b3 b4 b5 b6;obtain ⟨b0,b1,b2,b3,b4,b5,b6⟩:=aF dM.o;rw [HSU.o] at b6)|(go_at_call 68;have z9:=gZ;refine st (bK _ lo mid hi p kV _ gZ.o) ?_;rw [hf2])|(go_at_call 149;refine (EY _ lo mid hi p g2 c HM.o HG.o).mono ?_;rintro e9 W_1 ⟨rfl,aT,hm9,hb9⟩;obtain ⟨bg,bY,bI⟩:=hb9.nx HX HHB HGB HS;clear hb9;have aW:=hide hm9;obtain ⟨bQ,bU,bT,bV,eu,eP,eG,aX,bu⟩:=hm9.op;have kC:=aX.o.k3;have FY:=aX.o.frozen 3;clear b0 b1 b2 b3 b4 b5 b6;obtain ⟨b0,b1,b2,b3,b4,b5,b6⟩:=aF bg.o;rw [HSU.o] at b6)|(go_at_call 68;refine st (bK _ lo mid hi p aT _ aW.o) ?_;rw [hf]))
 first|go_end0|refine bodyPost_ret (results_none rfl _ _ _) rfl ?_
 exact ⟨rfl,kV,by rw [E.o];exact gZ.o,gX.o⟩
theorem Fe (w:World) (lo mid hi p g2:Nat) (c:Pl.Mc) (x:Pl.In) (h:MAt w lo mid hi p g2 c) (G:Pl.GM c) (B:Pl.InB x) (hs:x.s=1) (hf:c.pop.fine=true) (hf2:c.pop.pop.fine=true) :
  Calls prog 112 #[.pointer (some ⟨p,0,none⟩),.agg (inX x)] w fun e w'=>e=.returned (.tuple #[])∧∃g3,MAt w' lo mid hi p g3 (c.iD x)∧Since w lo hi g2 w' g3:=by
 have HG:=hide G
 have HI:=hide B
 have HSU:=hide hs
 clear hs
 have hl:=h.lo
 obtain ⟨X,hX,KA,HX,hbw,HHB,HGB,HPH,HPB,HMH,HS,HM⟩:=h.dL x
 obtain ⟨b0,b1,b2,b3,b4,b5,b6⟩:=aF HX.o
 rw [HSU.o] at b6
 clear h
 obtain ⟨gd,cd,ga,ca,g1,c1,c2,HB,HO⟩:=HM.o.op
 clear G B
 have E:Hid (c.iD x=(c.pop.pop.aJ c.pop.dV).dh (Pl.bJ (c.pop.pop.aJ c.pop.dV).r (c.dV%1024))):=hide (by unfold Pl.Mc.iD;rw [HSU.o,hf,hf2];rfl)
 have HG1:=hide HG.o.pop
 have HG2:=hide HG1.o.pop
 have HP:=Pl.kH HG.o
 have HP2:=Pl.kH HG1.o
 have hmm:=Pl.Qe c.dV
 have HGP:=hide (HG2.o.aJ HP2.1 HP2.2).g
 have HW:=fun gd cd ga ca w9 hr hh=>GG w9 lo mid gd cd ga ca (c.pop.pop.aJ c.pop.dV).r (c.dV%1024) hr hh HGP.o (by omega) (by omega)
 obtain ⟨R,hR⟩:∃R,Pl.bJ (c.pop.pop.aJ c.pop.dV).r (c.dV%1024)=R:=⟨_,rfl⟩
 rw [hR] at E
 simp only [hR,iK] at HW
 clear hR
 go_enter func112,ntmps112
 go_wp2_with (first|(go_at_call 80;have z9:=gZ;refine (HW wG wJ wH wK _ HRY.o HMY.o).mono ?_;rintro e9 W_9 ⟨rfl,hr9,hk9⟩;have jU:=hide (HOY.o.regs hr9 hk9);have aG:=hide (HBY.o.regs hk9 iq.o.p0);have jT:=hide (HSY.o.ai hk9 (Nat.le_refl _) HMH.o);clear hr9 hk9;obtain ⟨u0,u1,u2,u3,u4,u5,u6,u7,_⟩:=aG.o.cells;have q0:=aG.o.frozen 0;have q1:=aG.o.frozen 1;have q2:=aG.o.frozen 2;have q3:=aG.o.frozen 3;have q4:=aG.o.frozen 4;have q5:=aG.o.frozen 5;have q6:=aG.o.frozen 6;have q7:=aG.o.frozen 7)|(go_at_call 149;have z9:=aW;refine (EY _ lo mid hi p aT c.pop aW.o HG1.o).mono ?_;rintro e9 W_2 ⟨rfl,kV,hm9,hb9⟩;obtain ⟨dM,qj,gX⟩:=hb9.nx bg HHB bY bI;clear hb9;have gZ:=hide hm9;obtain ⟨wG,wJ,wH,wK,xY,yI,yH,aN,iq⟩:=hm9.op;obtain ⟨xy,xx,xw,uM,rZ,xu,xq,xn⟩:=aN.o.c8;have yu:=aN.o.frozen 0;have yt:=aN.o.frozen 1;have yl:=aN.o.frozen 2;have vO:=aN.o.frozen 3;have sZ:=aN.o.frozen 4;have yj:=aN.o.frozen 5;have yh:=aN.o.frozen 6;have yg:=aN.o.frozen 7;clear b0 b1 b2 b3 b4 b5 b6;obtain ⟨b0,b1,b2,b3,b4,b5,b6⟩:=aF dM.o;rw [HSU.o] at b6;have HBY:=hide (aN.o.cP c.pop.dV);have HOY:=hide (iq.o.own (ak W_2 p 3 (iv c.pop.dV)));have HSY:=hide (gX.o.set p 3 (iv c.pop.dV) HPH.o);have HRY:=hide (MO.reg (r:=(c.pop.pop.aJ c.pop.dV).r) HOY.o);have HMY:Hid (mid≤(W_2.setCell ⟨p,3,none⟩ (iv c.pop.dV)).heap.size):=hide (Nat.le_trans HMH.o HOY.o.hh))|(go_at_call 68;have z9:=gZ;refine st (bK _ lo mid hi p kV _ gZ.o) ?_;rw [hf2])|(go_at_call 149;refine (EY _ lo mid hi p g2 c HM.o HG.o).mono ?_;rintro e9 W_1 ⟨rfl,aT,hm9,hb9⟩;obtain ⟨bg,bY,bI⟩:=hb9.nx HX HHB HGB HS;clear hb9;have aW:=hide hm9;obtain ⟨bQ,bU,bT,bV,eu,eP,eG,aX,bu⟩:=hm9.op;have kC:=aX.o.k3;have FY:=aX.o.frozen 3;clear b0 b1 b2 b3 b4 b5 b6;obtain ⟨b0,b1,b2,b3,b4,b5,b6⟩:=aF bg.o;rw [HSU.o] at b6)|(go_at_call 68;refine st (bK _ lo mid hi p aT _ aW.o) ?_;rw [hf]))
 first|go_end0|refine bodyPost_ret (results_none rfl _ _ _) rfl ?_
 exact ⟨rfl,kV,by rw [E.o];exact MAt.laid aG.o jU.o,fG jT.o HPH.o _ _ _ _ _ _ _ _⟩
theorem Ff (w:World) (lo mid hi p g2:Nat) (c:Pl.Mc) (x:Pl.In) (h:MAt w lo mid hi p g2 c) (G:Pl.GM c) (B:Pl.InB x) (hs:x.s=2) :
  Calls prog 112 #[.pointer (some ⟨p,0,none⟩),.agg (inX x)] w fun e w'=>e=.returned (.tuple #[])∧∃g3,MAt w' lo mid hi p g3 (c.iD x)∧Since w lo hi g2 w' g3:=by
 have HG:=hide G
 have HI:=hide B
 have HSU:=hide hs
 clear hs
 have hl:=h.lo
 obtain ⟨X,hX,KA,HX,hbw,HHB,HGB,HPH,HPB,HMH,HS,HM⟩:=h.dL x
 obtain ⟨b0,b1,b2,b3,b4,b5,b6⟩:=aF HX.o
 rw [HSU.o] at b6
 clear h
 obtain ⟨gd,cd,ga,ca,g1,c1,c2,HB,HO⟩:=HM.o.op
 clear G B
 have E:Hid (c.iD x=c):=hide (by unfold Pl.Mc.iD;rw [HSU.o];rfl)
 go_enter func112,ntmps112
 go_wp2_with fail
 first|go_end0|refine bodyPost_ret (results_none rfl _ _ _) rfl ?_
 exact ⟨rfl,g2,by rw [E.o];exact HM.o,HS.o⟩
theorem Bj (w:World) (lo mid hi p g2:Nat) (c:Pl.Mc) (x:Pl.In) (h:MAt w lo mid hi p g2 c) (G:Pl.GM c) (B:Pl.InB x) (hs:x.s=4) :
  Calls prog 112 #[.pointer (some ⟨p,0,none⟩),.agg (inX x)] w fun e w'=>e=.returned (.tuple #[])∧∃g3,MAt w' lo mid hi p g3 (c.iD x)∧Since w lo hi g2 w' g3:=by
 have HG:=hide G
 have HI:=hide B
 have HSU:=hide hs
 clear hs
 have hl:=h.lo
 obtain ⟨X,hX,KA,HX,hbw,HHB,HGB,HPH,HPB,HMH,HS,HM⟩:=h.dL x
 obtain ⟨b0,b1,b2,b3,b4,b5,b6⟩:=aF HX.o
 rw [HSU.o] at b6
 clear h
 obtain ⟨gd,cd,ga,ca,g1,c1,c2,HB,HO⟩:=HM.o.op
 clear G B
 have E:Hid (c.iD x=c.raise (18+x.r)):=hide (by unfold Pl.Mc.iD;rw [HSU.o];rfl)
 have r0:=HI.o.r0
 have r1:=HI.o.r1
 go_enter func112,ntmps112
 go_wp2_with (go_at_call 150;refine (Ja _ lo mid hi p g2 c (18+x.r) HM.o).mono ?_;rintro e9 W_1 ⟨rfl,aT,hm9,hb9⟩;obtain ⟨bg,bY,bI⟩:=hb9.nx HX HHB HGB HS;clear hb9;have aW:=hide hm9;obtain ⟨bQ,bU,bT,bV,eu,eP,eG,aX,bu⟩:=hm9.op;clear b0 b1 b2 b3 b4 b5 b6;obtain ⟨b0,b1,b2,b3,b4,b5,b6⟩:=aF bg.o;rw [HSU.o] at b6)
 first|go_end0|refine bodyPost_ret (results_none rfl _ _ _) rfl ?_
 exact ⟨rfl,aT,by rw [E.o];exact aW.o,bI.o⟩
end Go.Proofs.YtkkmnnhaailkcaaGreatDoor
