/- Part 20 of what the last text leans on. -/
import Derived.Test.YtkkmnnhaailkcaaGreatDoorJA19
import Derived.Test.YtkkmnnhaailkcaaGreatDoorJA2
import Derived.Test.YtkkmnnhaailkcaaGreatDoorJA1
set_option maxRecDepth 100000
set_option maxHeartbeats 16000000
namespace Go.Proofs.YtkkmnnhaailkcaaGreatDoor
open Go.RowKit Go.Proofs.Tryz
set_option linter.unusedVariables false
theorem IY (w:World) (c:Pl.Cp) (a b e q:Option Addr) (ca cb ce cq:Nat) (ha:aI w a c.r.xs) (hb:aI w b c.r.ys) (he:aI w e c.bx) (hq:aI w q c.bl) (hok:Pl.iP c=true) (hl:c.bl.length=5*c.bm) (hf:(Pl.Mc.ofC c).fetch.fine=true) (hp:Pl.iR (Pl.Mc.ofC c).ay=false) (hfs:(((Pl.Mc.ofC c).fetch.aJ (((Pl.Mc.ofC c).r.p+2*(Pl.Mc.ofC c).bC)%65536)).doI (Pl.Mc.ofC c).ay (Pl.Mc.ofC c).r.p).fine=true) :
  Calls prog 43 #[.agg #[.slice a 4 ca,.slice b 4 cb,iv c.r.o,iv c.r.p,iv c.r.f,iv c.r.m,.bool c.r.s,.bool c.r.t,.slice e 512 ce,.slice q c.bm cq,.bool c.st,.bool c.ha]] w fun r w'=>∃gd cd ga cA g1 c1 g2 c2 mid:Nat,r=.returned (.tuple #[.agg (jI (Pl.aO c) gd cd ga cA g1 c1 g2 c2),.agg (ftC (Pl.dA c))])∧CO w' w.heap.size mid (Pl.aO c) gd ga g1 g2 c2∧Kept 0 0 w w':=by
 have HG:=hide (Pl.GM.of hok hl c.st)
 have h4:=HG.o.g.d4
 have h5:=HG.o.g.a4
 have hbx:=HG.o.bx
 have hbm:=HG.o.bm
 have K0:=hide (ah (ah (kept_alloc w (.cells #[.slice a 4 ca,.slice b 4 cb,iv c.r.o,iv c.r.p,iv c.r.f,iv c.r.m,.bool c.r.s,.bool c.r.t,.slice e 512 ce,.slice q c.bm cq,.bool c.st,.bool c.ha] 36)) (.cells cpZ 36)) (.cells ftZ 49))
 have B0:=((Blk.new w #[.slice a 4 ca,.slice b 4 cb,iv c.r.o,iv c.r.p,iv c.r.f,iv c.r.m,.bool c.r.s,.bool c.r.t,.slice e 512 ce,.slice q c.bm cq,.bool c.st,.bool c.ha] 36).alloc (.cells cpZ 36)).alloc (.cells ftZ 49)
 have B1:=(Blk.new (w.alloc (.cells #[.slice a 4 ca,.slice b 4 cb,iv c.r.o,iv c.r.p,iv c.r.f,iv c.r.m,.bool c.r.s,.bool c.r.t,.slice e 512 ce,.slice q c.bm cq,.bool c.st,.bool c.ha] 36)) cpZ 36).alloc (.cells ftZ 49)
 have B2:=Blk.new ((w.alloc (.cells #[.slice a 4 ca,.slice b 4 cb,iv c.r.o,iv c.r.p,iv c.r.f,iv c.r.m,.bool c.r.s,.bool c.r.t,.slice e 512 ce,.slice q c.bm cq,.bool c.st,.bool c.ha] 36)).alloc (.cells cpZ 36)) ftZ 49
 simp only [World.size_alloc] at B1 B2
 obtain ⟨X,hX⟩:∃X:World,((w.alloc (.cells #[.slice a 4 ca,.slice b 4 cb,iv c.r.o,iv c.r.p,iv c.r.f,iv c.r.m,.bool c.r.s,.bool c.r.t,.slice e 512 ce,.slice q c.bm cq,.bool c.st,.bool c.ha] 36)).alloc (.cells cpZ 36)).alloc (.cells ftZ 49)=X:=⟨_,rfl⟩
 rw [hX] at K0 B0 B1 B2
 have hxs:X.heap.size=w.heap.size+3:=by rw [←hX];simp
 have HXS:=hide hxs
 have HB0:=hide B0
 have HB1:=hide B1
 have HB2:=hide B2
 have HA:=hide (ha.ai K0.o)
 have HB:=hide (hb.ai K0.o)
 have HE:=hide (he.ai K0.o)
 have HQ:=hide (hq.ai K0.o)
 have HAw:=hide ha
 have HBw:=hide hb
 clear B0 B1 B2 ha hb he hq hxs
 have i0:=HB0.o.all
 obtain ⟨hin,hfn⟩:=Pl.mX hf
 have hpp0:0≤(Pl.Mc.ofC c).r.p:=HG.o.p0
 have hpp1:(Pl.Mc.ofC c).r.p≤65535:=HG.o.p1
 have HGd:Hid (Pl.GM ((Pl.Mc.ofC c).fetch.aJ (((Pl.Mc.ofC c).r.p+2*(Pl.Mc.ofC c).bC)%65536))):=hide ((Pl.GM.fetch HG.o).aJ (by omega) (by omega))
 have hfd:((Pl.Mc.ofC c).fetch.aJ (((Pl.Mc.ofC c).r.p+2*(Pl.Mc.ofC c).bC)%65536)).fine=true:=hf
 have HGs:=hide (HGd.o.doI hin (Pl.Mc.ofC c).r.p)
 have HDO:=fun w9 mid hi p g3 h9=>mDo w9 X.heap.size mid hi p g3 ((Pl.Mc.ofC c).fetch.aJ (((Pl.Mc.ofC c).r.p+2*(Pl.Mc.ofC c).bC)%65536)) (Pl.Mc.ofC c).ay (Pl.Mc.ofC c).r.p h9 HGd.o hin hpp0 hpp1 hfd
 have ES:Pl.stepM c=((Pl.Mc.ofC c).fetch.aJ (((Pl.Mc.ofC c).r.p+2*(Pl.Mc.ofC c).bC)%65536)).doI (Pl.Mc.ofC c).ay (Pl.Mc.ofC c).r.p:=by
  have e1:(Pl.Mc.ofC c).s1=(Pl.Mc.ofC c).fetch:=by unfold Pl.Mc.s1;rw [hf,hp];rfl
  unfold Pl.stepM Pl.Mc.s2;rw [e1,hf];rfl
 obtain ⟨sd,hsd⟩:∃s,((Pl.Mc.ofC c).fetch.aJ (((Pl.Mc.ofC c).r.p+2*(Pl.Mc.ofC c).bC)%65536)).doI (Pl.Mc.ofC c).ay (Pl.Mc.ofC c).r.p=s:=⟨_,rfl⟩
 rw [hsd] at HGs hfs ES
 simp only [hsd] at HDO
 clear hsd
 have EC:Hid (Pl.aO c=sd.cpu false):=hide (by unfold Pl.aO;rw [ES,hfs];rfl)
 have EF:Hid (Pl.dA c=Pl.aH):=hide (by unfold Pl.dA;rw [ES,hfs];rfl)
 have HBL:Hid (w.heap.size<X.heap.size):=hide (by have:=HXS.o;omega)
 have Us:Hid (w.heap.size+1<X.heap.size):=hide (by have:=HXS.o;omega)
 have Ur:Hid (w.heap.size+1+1<X.heap.size):=hide (by have:=HXS.o;omega)
 have HPV:Hid (Pl.iR ⟨(Pl.Mc.ofC c).ay.op,(Pl.Mc.ofC c).ay.z,(Pl.Mc.ofC c).ay.r,(Pl.Mc.ofC c).ay.m,(Pl.Mc.ofC c).ay.k,(Pl.Mc.ofC c).ay.e,(Pl.Mc.ofC c).ay.s⟩=false):=hide hp
 have hmk:=lX ((Pl.Mc.ofC c).r.p+2*(Pl.Mc.ofC c).bC)
 have hn0:1≤(Pl.Mc.ofC c).bC:=by omega
 have hn1:(Pl.Mc.ofC c).bC≤2:=by omega
 clear ES hp hfn hin hfd
 go_enter func43,ntmps43
 go_wp2_with (first|(go_at_call 68;have z9:=HM6;refine st (bK _ X.heap.size mid W1.heap.size p g6 _ HM6.o) ?_;rw [hfs])|(go_at_call 70;have z9:=HMd;refine (HDO _ mid W1.heap.size p g3 HMd.o).mono ?_;rintro e9 W6 ⟨rfl,g6,hm9,hb9⟩;have HM6:=hide hm9;have HL6:=hide (HLd.o.trans (fE hb9 HMd.o.qJ HLd.o.size));have HK6:=hide (dH K0.o HL6.o K0.o.size);have HZ6:=hide (HB0.o.below HL6.o HBL.o);clear hb9 x0 x1 x2 x3 x4 x5 x6 t3 t6 t11 f3 f11 i0;have i0:=HZ6.o.cell (i:=0) rfl;have i1:=HZ6.o.cell (i:=1) rfl;have i2:=HZ6.o.cell (i:=2) rfl;have i3:=HZ6.o.cell (i:=3) rfl;have i4:=HZ6.o.cell (i:=4) rfl;have i5:=HZ6.o.cell (i:=5) rfl;have i6:=HZ6.o.cell (i:=6) rfl;have i7:=HZ6.o.cell (i:=7) rfl;have i8:=HZ6.o.cell (i:=8) rfl;have i9:=HZ6.o.cell (i:=9) rfl;have i10:=HZ6.o.cell (i:=10) rfl;have i11:=HZ6.o.cell (i:=11) rfl;obtain ⟨gd6,cd6,ga6,ca6,g16,c16,c26,hB9,hO9⟩:=hm9;have HB6:=hide hB9;have HO6:=hide hO9;have hpw6:=hB9.lt;clear hB9 hO9)|(go_at_call 68;have z9:=HMd;refine st (bK _ X.heap.size mid W1.heap.size p g3 _ HM5.o) ?_;rw [hf])|(go_at_call 68;have z9:=HBm;refine st (bK _ X.heap.size mid W1.heap.size p g3 _ HMZ.o) ?_;rw [hf])|(go_at_call 66;refine (sO _ c a b e q ca cb ce cq HA.o HB.o HE.o HQ.o h4 h5 hbx hl hbm).mono ?_;rintro e9 W1 ⟨mid,p,g2,rfl,hm9,hp9,k9⟩;have HM1:=hide hm9;have HK1:=hide k9;have HP1:=hide hp9;have HL1:=hide (dm k9 (Nat.le_refl X.heap.size));obtain ⟨_,_,_,_,_,_,_,hB9,_⟩:=hm9;have hpw1:=hB9.lt;have t3:=(MB.cells hB9).2.2.2.1;clear hp9 k9 hB9)|(go_at_call 67;refine (sS _ X.heap.size mid W1.heap.size p g2 (Pl.Mc.ofC c) HM1.o HG.o).mono ?_;rintro e9 W2 ⟨rfl,g3,hm9,hb9⟩;have HM2:=hide hm9;have HS2:=hide hb9;have HL2:=hide (HL1.o.trans (fE hb9 HM1.o.qJ HL1.o.size));clear hm9 hb9 t3;unfold lY;have KZ:=kept_alloc W2 (.cells #[iv (Pl.Mc.ofC c).ay.op,iv (Pl.Mc.ofC c).ay.z,iv (Pl.Mc.ofC c).ay.r,iv (Pl.Mc.ofC c).ay.m,iv (Pl.Mc.ofC c).ay.k,iv (Pl.Mc.ofC c).ay.e,iv (Pl.Mc.ofC c).ay.s] 109);have BZ:=Blk.new W2 #[iv (Pl.Mc.ofC c).ay.op,iv (Pl.Mc.ofC c).ay.z,iv (Pl.Mc.ofC c).ay.r,iv (Pl.Mc.ofC c).ay.m,iv (Pl.Mc.ofC c).ay.k,iv (Pl.Mc.ofC c).ay.e,iv (Pl.Mc.ofC c).ay.s] 109;obtain ⟨Z,hZ⟩:∃Z:World,W2.alloc (.cells #[iv (Pl.Mc.ofC c).ay.op,iv (Pl.Mc.ofC c).ay.z,iv (Pl.Mc.ofC c).ay.r,iv (Pl.Mc.ofC c).ay.m,iv (Pl.Mc.ofC c).ay.k,iv (Pl.Mc.ofC c).ay.e,iv (Pl.Mc.ofC c).ay.s] 109)=Z:=⟨_,rfl⟩;rw [hZ] at KZ BZ;have HBZ:=hide BZ;have HMZ:=hide (HM2.o.any KZ);have HLZ:=hide (HL2.o.trans (dm KZ (Nat.le_trans (Nat.le_refl X.heap.size) HL2.o.size)));have HKZ:=hide (dH K0.o HLZ.o K0.o.size);clear KZ BZ;have HZB:=hide (HB0.o.below HLZ.o HBL.o);clear i0;have i0:=HZB.o.cell (i:=0) rfl;have i1:=HZB.o.cell (i:=1) rfl;have i2:=HZB.o.cell (i:=2) rfl;have i3:=HZB.o.cell (i:=3) rfl;have i4:=HZB.o.cell (i:=4) rfl;have i5:=HZB.o.cell (i:=5) rfl;have i6:=HZB.o.cell (i:=6) rfl;have i7:=HZB.o.cell (i:=7) rfl;have i8:=HZB.o.cell (i:=8) rfl;have i9:=HZB.o.cell (i:=9) rfl;have i10:=HZB.o.cell (i:=10) rfl;have i11:=HZB.o.cell (i:=11) rfl;have hzm:=HMZ.o;obtain ⟨gd,cd,ga,cA,g1,c1,c2,hB9,hO9⟩:=hzm;have HBm:=hide hB9;have HOm:=hide hO9;have hpz:=hB9.lt;clear hB9 hO9;have x0:=HBZ.o.cell (i:=0) rfl;have x1:=HBZ.o.cell (i:=1) rfl;have x2:=HBZ.o.cell (i:=2) rfl;have x3:=HBZ.o.cell (i:=3) rfl;have x4:=HBZ.o.cell (i:=4) rfl;have x5:=HBZ.o.cell (i:=5) rfl;have x6:=HBZ.o.cell (i:=6) rfl;have hzx:=HBZ.o.lt)|(go_at_call 69;have z9:=HBm;refine (oW _ (Pl.Mc.ofC c).ay.op (Pl.Mc.ofC c).ay.z (Pl.Mc.ofC c).ay.r (Pl.Mc.ofC c).ay.m (Pl.Mc.ofC c).ay.k (Pl.Mc.ofC c).ay.e (Pl.Mc.ofC c).ay.s).mono ?_;rintro e9 W5 ⟨rfl,k9⟩;rw [HPV.o];have HM5:=hide (HMZ.o.any k9);have HB5:=hide (HBm.o.any k9);have HO5:=hide (HOm.o.any k9);have HZ5:=hide (HZB.o.af k9);have HL5:=hide (HLZ.o.trans (dm k9 (Nat.le_trans (Nat.le_refl X.heap.size) HLZ.o.size)));have HK5:=hide (HKZ.o.trans k9);have HX5:=hide (HBZ.o.af k9);clear k9 x0 x1 x2 x3 x4 x5 x6 i0;have i0:=HZ5.o.cell (i:=0) rfl;have i1:=HZ5.o.cell (i:=1) rfl;have i2:=HZ5.o.cell (i:=2) rfl;have i3:=HZ5.o.cell (i:=3) rfl;have i4:=HZ5.o.cell (i:=4) rfl;have i5:=HZ5.o.cell (i:=5) rfl;have i6:=HZ5.o.cell (i:=6) rfl;have i7:=HZ5.o.cell (i:=7) rfl;have i8:=HZ5.o.cell (i:=8) rfl;have i9:=HZ5.o.cell (i:=9) rfl;have i10:=HZ5.o.cell (i:=10) rfl;have i11:=HZ5.o.cell (i:=11) rfl;have x0:=HX5.o.cell (i:=0) rfl;have x1:=HX5.o.cell (i:=1) rfl;have x2:=HX5.o.cell (i:=2) rfl;have x3:=HX5.o.cell (i:=3) rfl;have x4:=HX5.o.cell (i:=4) rfl;have x5:=HX5.o.cell (i:=5) rfl;have x6:=HX5.o.cell (i:=6) rfl;obtain ⟨t0,t1,t2,t3,t4,t5,t6,t7,t8,t9,t10,t11,_⟩:=HB5.o.cells;have f11:=HB5.o.frozen 11;have f3:=HB5.o.frozen 3;have hpw5:=HB5.o.lt;clear t0 t1 t2 t4 t5 t7 t8 t9 t10;have HMd:Hid (MAt (W5.setCell ⟨p,3,none⟩ (iv (((Pl.Mc.ofC c).r.p+2*(Pl.Mc.ofC c).bC)%65536))) X.heap.size mid W1.heap.size p g3 ((Pl.Mc.ofC c).fetch.aJ (((Pl.Mc.ofC c).r.p+2*(Pl.Mc.ofC c).bC)%65536))):=hide (HM5.o.cP (((Pl.Mc.ofC c).r.p+2*(Pl.Mc.ofC c).bC)%65536));have HLd:=hide (HL5.o.setCell (p:=⟨p,3,none⟩) HP1.o (iv (((Pl.Mc.ofC c).r.p+2*(Pl.Mc.ofC c).bC)%65536)));have hpx:p<W2.heap.size:=HM2.o.lo.2.2.2.2.1)|(go_at_call 71;refine (VB _ X.heap.size mid W1.heap.size p g6 sd HM6.o HGs.o).mono ?_;unfold jI;rintro e9 W4 ⟨gd4,cd4,ga4,ca4,g14,c14,g24,c24,mid4,rfl,hc9,k9⟩;have HC:=hide hc9;have HK4:=hide (HK6.o.trans k9);have aK:=hide ((HB1.o.below HL6.o Us.o).af k9);have dG:=hide ((HB2.o.below HL6.o Ur.o).af k9);have hs4:=dG.o.lt;clear hc9 k9;have o0:=aK.o.cell (i:=0) rfl;have of0:=aK.o.frozen 0;have o1:=aK.o.cell (i:=1) rfl;have of1:=aK.o.frozen 1;have o2:=aK.o.cell (i:=2) rfl;have of2:=aK.o.frozen 2;have o3:=aK.o.cell (i:=3) rfl;have of3:=aK.o.frozen 3;have o4:=aK.o.cell (i:=4) rfl;have of4:=aK.o.frozen 4;have o5:=aK.o.cell (i:=5) rfl;have of5:=aK.o.frozen 5;have o6:=aK.o.cell (i:=6) rfl;have of6:=aK.o.frozen 6;have o7:=aK.o.cell (i:=7) rfl;have of7:=aK.o.frozen 7;have o8:=aK.o.cell (i:=8) rfl;have of8:=aK.o.frozen 8;have o9:=aK.o.cell (i:=9) rfl;have of9:=aK.o.frozen 9;have o10:=aK.o.cell (i:=10) rfl;have of10:=aK.o.frozen 10;have o11:=aK.o.cell (i:=11) rfl;have of11:=aK.o.frozen 11;have y0:=dG.o.cell (i:=0) rfl;have yf0:=dG.o.frozen 0;have y1:=dG.o.cell (i:=1) rfl;have yf1:=dG.o.frozen 1;have y2:=dG.o.cell (i:=2) rfl;have yf2:=dG.o.frozen 2;have y3:=dG.o.cell (i:=3) rfl;have yf3:=dG.o.frozen 3;have y4:=dG.o.cell (i:=4) rfl;have yf4:=dG.o.frozen 4))
 have hxs:=HXS.o
 have hl6:=HL6.o.size
 refine bodyPost_ret (v:=.tuple #[.agg (jI (Pl.aO c) gd4 cd4 ga4 ca4 g14 c14 g24 c24),.agg (ftC (Pl.dA c))]) ?_ rfl ⟨gd4,cd4,ga4,ca4,g14,c14,g24,c24,mid4,rfl,?co,?kw⟩
 case co=>
  rw [EC.o]
  refine HC.o.uZ (x:=w.heap.size+1) (y:=w.heap.size+3) (by omega) (by omega) ?_
  repeat (first|with_reducible exact Kept.refl _ _ _|refine ag ?_ _ _ _ (.inl (by omega)))
 case kw=>repeat (first|with_reducible exact HK4.o|refine ag ?_ _ _ _ (.inr (by omega)))
 rw [ik rfl,EC.o,EF.o];go_simp;exact ⟨rfl,rfl⟩
theorem EP (w:World) (c:Pl.Cp) (a b e q:Option Addr) (ca cb ce cq:Nat) (ha:aI w a c.r.xs) (hb:aI w b c.r.ys) (he:aI w e c.bx) (hq:aI w q c.bl) (hok:Pl.iP c=true) (hl:c.bl.length=5*c.bm) (hf:(Pl.Mc.ofC c).fetch.fine=true) (hp:Pl.iR (Pl.Mc.ofC c).ay=false) (hfs:(((Pl.Mc.ofC c).fetch.aJ (((Pl.Mc.ofC c).r.p+2*(Pl.Mc.ofC c).bC)%65536)).doI (Pl.Mc.ofC c).ay (Pl.Mc.ofC c).r.p).fine=false) :
  Calls prog 43 #[.agg #[.slice a 4 ca,.slice b 4 cb,iv c.r.o,iv c.r.p,iv c.r.f,iv c.r.m,.bool c.r.s,.bool c.r.t,.slice e 512 ce,.slice q c.bm cq,.bool c.st,.bool c.ha]] w fun r w'=>∃gd cd ga cA g1 c1 g2 c2 mid:Nat,r=.returned (.tuple #[.agg (jI (Pl.aO c) gd cd ga cA g1 c1 g2 c2),.agg (ftC (Pl.dA c))])∧CO w' w.heap.size mid (Pl.aO c) gd ga g1 g2 c2∧Kept 0 0 w w':=by
 have HG:=hide (Pl.GM.of hok hl c.st)
 have h4:=HG.o.g.d4
 have h5:=HG.o.g.a4
 have hbx:=HG.o.bx
 have hbm:=HG.o.bm
 have K0:=hide (ah (ah (kept_alloc w (.cells #[.slice a 4 ca,.slice b 4 cb,iv c.r.o,iv c.r.p,iv c.r.f,iv c.r.m,.bool c.r.s,.bool c.r.t,.slice e 512 ce,.slice q c.bm cq,.bool c.st,.bool c.ha] 36)) (.cells cpZ 36)) (.cells ftZ 49))
 have B0:=((Blk.new w #[.slice a 4 ca,.slice b 4 cb,iv c.r.o,iv c.r.p,iv c.r.f,iv c.r.m,.bool c.r.s,.bool c.r.t,.slice e 512 ce,.slice q c.bm cq,.bool c.st,.bool c.ha] 36).alloc (.cells cpZ 36)).alloc (.cells ftZ 49)
 have B1:=(Blk.new (w.alloc (.cells #[.slice a 4 ca,.slice b 4 cb,iv c.r.o,iv c.r.p,iv c.r.f,iv c.r.m,.bool c.r.s,.bool c.r.t,.slice e 512 ce,.slice q c.bm cq,.bool c.st,.bool c.ha] 36)) cpZ 36).alloc (.cells ftZ 49)
 have B2:=Blk.new ((w.alloc (.cells #[.slice a 4 ca,.slice b 4 cb,iv c.r.o,iv c.r.p,iv c.r.f,iv c.r.m,.bool c.r.s,.bool c.r.t,.slice e 512 ce,.slice q c.bm cq,.bool c.st,.bool c.ha] 36)).alloc (.cells cpZ 36)) ftZ 49
 simp only [World.size_alloc] at B1 B2
 obtain ⟨X,hX⟩:∃X:World,((w.alloc (.cells #[.slice a 4 ca,.slice b 4 cb,iv c.r.o,iv c.r.p,iv c.r.f,iv c.r.m,.bool c.r.s,.bool c.r.t,.slice e 512 ce,.slice q c.bm cq,.bool c.st,.bool c.ha] 36)).alloc (.cells cpZ 36)).alloc (.cells ftZ 49)=X:=⟨_,rfl⟩
 rw [hX] at K0 B0 B1 B2
 have hxs:X.heap.size=w.heap.size+3:=by rw [←hX];simp
 have HXS:=hide hxs
 have HB0:=hide B0
 have HB1:=hide B1
 have HB2:=hide B2
 have HA:=hide (ha.ai K0.o)
 have HB:=hide (hb.ai K0.o)
 have HE:=hide (he.ai K0.o)
 have HQ:=hide (hq.ai K0.o)
 have HAw:=hide ha
 have HBw:=hide hb
 clear B0 B1 B2 ha hb he hq hxs
 have i0:=HB0.o.all
 obtain ⟨hin,hfn⟩:=Pl.mX hf
 have hpp0:0≤(Pl.Mc.ofC c).r.p:=HG.o.p0
 have hpp1:(Pl.Mc.ofC c).r.p≤65535:=HG.o.p1
 have HGd:Hid (Pl.GM ((Pl.Mc.ofC c).fetch.aJ (((Pl.Mc.ofC c).r.p+2*(Pl.Mc.ofC c).bC)%65536))):=hide ((Pl.GM.fetch HG.o).aJ (by omega) (by omega))
 have hfd:((Pl.Mc.ofC c).fetch.aJ (((Pl.Mc.ofC c).r.p+2*(Pl.Mc.ofC c).bC)%65536)).fine=true:=hf
 have HGs:=hide (HGd.o.doI hin (Pl.Mc.ofC c).r.p)
 have HDO:=fun w9 mid hi p g3 h9=>mDo w9 X.heap.size mid hi p g3 ((Pl.Mc.ofC c).fetch.aJ (((Pl.Mc.ofC c).r.p+2*(Pl.Mc.ofC c).bC)%65536)) (Pl.Mc.ofC c).ay (Pl.Mc.ofC c).r.p h9 HGd.o hin hpp0 hpp1 hfd
 have ES:Pl.stepM c=((Pl.Mc.ofC c).fetch.aJ (((Pl.Mc.ofC c).r.p+2*(Pl.Mc.ofC c).bC)%65536)).doI (Pl.Mc.ofC c).ay (Pl.Mc.ofC c).r.p:=by
  have e1:(Pl.Mc.ofC c).s1=(Pl.Mc.ofC c).fetch:=by unfold Pl.Mc.s1;rw [hf,hp];rfl
  unfold Pl.stepM Pl.Mc.s2;rw [e1,hf];rfl
 obtain ⟨sd,hsd⟩:∃s,((Pl.Mc.ofC c).fetch.aJ (((Pl.Mc.ofC c).r.p+2*(Pl.Mc.ofC c).bC)%65536)).doI (Pl.Mc.ofC c).ay (Pl.Mc.ofC c).r.p=s:=⟨_,rfl⟩
 rw [hsd] at HGs hfs ES
 simp only [hsd] at HDO
 clear hsd
 have EC:Hid (Pl.aO c=Pl.Mc.cpu {(sd.dh c.r) with st:=c.st} false):=hide (by unfold Pl.aO;rw [ES,hfs];rfl)
 have EF:Hid (Pl.dA c=sd.f):=hide (by unfold Pl.dA;rw [ES,hfs];rfl)
 have HBL:Hid (w.heap.size<X.heap.size):=hide (by have:=HXS.o;omega)
 have HPV:Hid (Pl.iR ⟨(Pl.Mc.ofC c).ay.op,(Pl.Mc.ofC c).ay.z,(Pl.Mc.ofC c).ay.r,(Pl.Mc.ofC c).ay.m,(Pl.Mc.ofC c).ay.k,(Pl.Mc.ofC c).ay.e,(Pl.Mc.ofC c).ay.s⟩=false):=hide hp
 have hmk:=lX ((Pl.Mc.ofC c).r.p+2*(Pl.Mc.ofC c).bC)
 have hn0:1≤(Pl.Mc.ofC c).bC:=by omega
 have hn1:(Pl.Mc.ofC c).bC≤2:=by omega
 clear ES hp hfn hin hfd
 go_enter func43,ntmps43
 go_wp2_with (first|(go_at_call 68;have z9:=HM6;refine st (bK _ X.heap.size mid W1.heap.size p g6 _ HM6.o) ?_;rw [hfs])|(go_at_call 70;have z9:=HMd;refine (HDO _ mid W1.heap.size p g3 HMd.o).mono ?_;rintro e9 W6 ⟨rfl,g6,hm9,hb9⟩;have HM6:=hide hm9;have HL6:=hide (HLd.o.trans (fE hb9 HMd.o.qJ HLd.o.size));have HK6:=hide (dH K0.o HL6.o K0.o.size);have HZ6:=hide (HB0.o.below HL6.o HBL.o);clear hb9 x0 x1 x2 x3 x4 x5 x6 t3 t6 t11 f3 f11 i0;have i0:=HZ6.o.cell (i:=0) rfl;have i1:=HZ6.o.cell (i:=1) rfl;have i2:=HZ6.o.cell (i:=2) rfl;have i3:=HZ6.o.cell (i:=3) rfl;have i4:=HZ6.o.cell (i:=4) rfl;have i5:=HZ6.o.cell (i:=5) rfl;have i6:=HZ6.o.cell (i:=6) rfl;have i7:=HZ6.o.cell (i:=7) rfl;have i8:=HZ6.o.cell (i:=8) rfl;have i9:=HZ6.o.cell (i:=9) rfl;have i10:=HZ6.o.cell (i:=10) rfl;have i11:=HZ6.o.cell (i:=11) rfl;obtain ⟨gd6,cd6,ga6,ca6,g16,c16,c26,hB9,hO9⟩:=hm9;have HB6:=hide hB9;have HO6:=hide hO9;have hpw6:=hB9.lt;clear hB9 hO9)|(go_at_call 68;have z9:=HMd;refine st (bK _ X.heap.size mid W1.heap.size p g3 _ HM5.o) ?_;rw [hf])|(go_at_call 68;have z9:=HBm;refine st (bK _ X.heap.size mid W1.heap.size p g3 _ HMZ.o) ?_;rw [hf])|(go_at_call 66;refine (sO _ c a b e q ca cb ce cq HA.o HB.o HE.o HQ.o h4 h5 hbx hl hbm).mono ?_;rintro e9 W1 ⟨mid,p,g2,rfl,hm9,hp9,k9⟩;have HM1:=hide hm9;have HK1:=hide k9;have HP1:=hide hp9;have HL1:=hide (dm k9 (Nat.le_refl X.heap.size));obtain ⟨_,_,_,_,_,_,_,hB9,_⟩:=hm9;have hpw1:=hB9.lt;have t3:=(MB.cells hB9).2.2.2.1;clear hp9 k9 hB9)|(go_at_call 67;refine (sS _ X.heap.size mid W1.heap.size p g2 (Pl.Mc.ofC c) HM1.o HG.o).mono ?_;rintro e9 W2 ⟨rfl,g3,hm9,hb9⟩;have HM2:=hide hm9;have HS2:=hide hb9;have HL2:=hide (HL1.o.trans (fE hb9 HM1.o.qJ HL1.o.size));clear hm9 hb9 t3;unfold lY;have KZ:=kept_alloc W2 (.cells #[iv (Pl.Mc.ofC c).ay.op,iv (Pl.Mc.ofC c).ay.z,iv (Pl.Mc.ofC c).ay.r,iv (Pl.Mc.ofC c).ay.m,iv (Pl.Mc.ofC c).ay.k,iv (Pl.Mc.ofC c).ay.e,iv (Pl.Mc.ofC c).ay.s] 109);have BZ:=Blk.new W2 #[iv (Pl.Mc.ofC c).ay.op,iv (Pl.Mc.ofC c).ay.z,iv (Pl.Mc.ofC c).ay.r,iv (Pl.Mc.ofC c).ay.m,iv (Pl.Mc.ofC c).ay.k,iv (Pl.Mc.ofC c).ay.e,iv (Pl.Mc.ofC c).ay.s] 109;obtain ⟨Z,hZ⟩:∃Z:World,W2.alloc (.cells #[iv (Pl.Mc.ofC c).ay.op,iv (Pl.Mc.ofC c).ay.z,iv (Pl.Mc.ofC c).ay.r,iv (Pl.Mc.ofC c).ay.m,iv (Pl.Mc.ofC c).ay.k,iv (Pl.Mc.ofC c).ay.e,iv (Pl.Mc.ofC c).ay.s] 109)=Z:=⟨_,rfl⟩;rw [hZ] at KZ BZ;have HBZ:=hide BZ;have HMZ:=hide (HM2.o.any KZ);have HLZ:=hide (HL2.o.trans (dm KZ (Nat.le_trans (Nat.le_refl X.heap.size) HL2.o.size)));have HKZ:=hide (dH K0.o HLZ.o K0.o.size);clear KZ BZ;have HZB:=hide (HB0.o.below HLZ.o HBL.o);clear i0;have i0:=HZB.o.cell (i:=0) rfl;have i1:=HZB.o.cell (i:=1) rfl;have i2:=HZB.o.cell (i:=2) rfl;have i3:=HZB.o.cell (i:=3) rfl;have i4:=HZB.o.cell (i:=4) rfl;have i5:=HZB.o.cell (i:=5) rfl;have i6:=HZB.o.cell (i:=6) rfl;have i7:=HZB.o.cell (i:=7) rfl;have i8:=HZB.o.cell (i:=8) rfl;have i9:=HZB.o.cell (i:=9) rfl;have i10:=HZB.o.cell (i:=10) rfl;have i11:=HZB.o.cell (i:=11) rfl;have hzm:=HMZ.o;obtain ⟨gd,cd,ga,cA,g1,c1,c2,hB9,hO9⟩:=hzm;have HBm:=hide hB9;have HOm:=hide hO9;have hpz:=hB9.lt;clear hB9 hO9;have x0:=HBZ.o.cell (i:=0) rfl;have x1:=HBZ.o.cell (i:=1) rfl;have x2:=HBZ.o.cell (i:=2) rfl;have x3:=HBZ.o.cell (i:=3) rfl;have x4:=HBZ.o.cell (i:=4) rfl;have x5:=HBZ.o.cell (i:=5) rfl;have x6:=HBZ.o.cell (i:=6) rfl;have hzx:=HBZ.o.lt)|(go_at_call 69;have z9:=HBm;refine (oW _ (Pl.Mc.ofC c).ay.op (Pl.Mc.ofC c).ay.z (Pl.Mc.ofC c).ay.r (Pl.Mc.ofC c).ay.m (Pl.Mc.ofC c).ay.k (Pl.Mc.ofC c).ay.e (Pl.Mc.ofC c).ay.s).mono ?_;rintro e9 W5 ⟨rfl,k9⟩;rw [HPV.o];have HM5:=hide (HMZ.o.any k9);have HB5:=hide (HBm.o.any k9);have HO5:=hide (HOm.o.any k9);have HZ5:=hide (HZB.o.af k9);have HL5:=hide (HLZ.o.trans (dm k9 (Nat.le_trans (Nat.le_refl X.heap.size) HLZ.o.size)));have HK5:=hide (HKZ.o.trans k9);have HX5:=hide (HBZ.o.af k9);clear k9 x0 x1 x2 x3 x4 x5 x6 i0;have i0:=HZ5.o.cell (i:=0) rfl;have i1:=HZ5.o.cell (i:=1) rfl;have i2:=HZ5.o.cell (i:=2) rfl;have i3:=HZ5.o.cell (i:=3) rfl;have i4:=HZ5.o.cell (i:=4) rfl;have i5:=HZ5.o.cell (i:=5) rfl;have i6:=HZ5.o.cell (i:=6) rfl;have i7:=HZ5.o.cell (i:=7) rfl;have i8:=HZ5.o.cell (i:=8) rfl;have i9:=HZ5.o.cell (i:=9) rfl;have i10:=HZ5.o.cell (i:=10) rfl;have i11:=HZ5.o.cell (i:=11) rfl;have x0:=HX5.o.cell (i:=0) rfl;have x1:=HX5.o.cell (i:=1) rfl;have x2:=HX5.o.cell (i:=2) rfl;have x3:=HX5.o.cell (i:=3) rfl;have x4:=HX5.o.cell (i:=4) rfl;have x5:=HX5.o.cell (i:=5) rfl;have x6:=HX5.o.cell (i:=6) rfl;obtain ⟨t0,t1,t2,t3,t4,t5,t6,t7,t8,t9,t10,t11,_⟩:=HB5.o.cells;have f11:=HB5.o.frozen 11;have f3:=HB5.o.frozen 3;have hpw5:=HB5.o.lt;clear t0 t1 t2 t4 t5 t7 t8 t9 t10;have HMd:Hid (MAt (W5.setCell ⟨p,3,none⟩ (iv (((Pl.Mc.ofC c).r.p+2*(Pl.Mc.ofC c).bC)%65536))) X.heap.size mid W1.heap.size p g3 ((Pl.Mc.ofC c).fetch.aJ (((Pl.Mc.ofC c).r.p+2*(Pl.Mc.ofC c).bC)%65536))):=hide (HM5.o.cP (((Pl.Mc.ofC c).r.p+2*(Pl.Mc.ofC c).bC)%65536));have HLd:=hide (HL5.o.setCell (p:=⟨p,3,none⟩) HP1.o (iv (((Pl.Mc.ofC c).r.p+2*(Pl.Mc.ofC c).bC)%65536)));have hpx:p<W2.heap.size:=HM2.o.lo.2.2.2.2.1)|(go_at_call 64;have z9:=HB6;refine (own4 _ c.r a b ca cb (HAw.o.ai HK6.o) (HBw.o.ai HK6.o) h4 h5).mono ?_;unfold iK;rintro e9 W3 ⟨gd',cd',ga',ca',rfl,od,oa,d0,d1,a0,a1,da,k9⟩;have hplt:=HB6.o.lt;have HD3:=hide od;have HA3:=hide oa;have HB3:=hide (HB6.o.any k9);have HO3:=hide (HO6.o.any k9);have HK3:=hide (HK6.o.trans k9);have HZ3:=hide (HZ6.o.af k9);have HL3:=hide (HL6.o.trans (dm k9 (Nat.le_trans (Nat.le_refl X.heap.size) HL6.o.size)));clear od oa k9 i0;have i10:=HZ3.o.cell (i:=10) rfl;obtain ⟨u0,u1,u2,u3,u4,u5,u6,u7,u8,u9,u10,u11,u12,u13,u14,u15⟩:=HB3.o.cells;have q0:=HB3.o.frozen 0;have q1:=HB3.o.frozen 1;have q2:=HB3.o.frozen 2;have q3:=HB3.o.frozen 3;have q4:=HB3.o.frozen 4;have q5:=HB3.o.frozen 5;have q6:=HB3.o.frozen 6;have q7:=HB3.o.frozen 7;have q10:=HB3.o.frozen 10))
 have hd3:=HD3.o.lt (by rw [h4];decide)
 have KP:=(MB.jb (w:=W3) (p:=p) (.slice (some ⟨gd',0,none⟩) 4 cd') (.slice (some ⟨ga',0,none⟩) 4 ca') (iv c.r.o) (iv c.r.p) (iv c.r.f) (iv c.r.m) (.bool c.r.s) (.bool c.r.t)).one 10 (.bool c.st)
 have MY:MB (((((((((W3.setCell ⟨p,0,none⟩ ((.slice (some ⟨gd',0,none⟩) 4 cd'))).setCell ⟨p,1,none⟩ ((.slice (some ⟨ga',0,none⟩) 4 ca'))).setCell ⟨p,2,none⟩ ((iv c.r.o))).setCell ⟨p,3,none⟩ ((iv c.r.p))).setCell ⟨p,4,none⟩ ((iv c.r.f))).setCell ⟨p,5,none⟩ ((iv c.r.m))).setCell ⟨p,6,none⟩ ((.bool c.r.s))).setCell ⟨p,7,none⟩ ((.bool c.r.t))).setCell ⟨p,10,none⟩ (.bool c.st)) p gd' cd' ga' ca' g16 c16 g6 c26 {(sd.dh c.r) with st:=c.st}:=(HB3.o.laid2 c.r gd' cd' ga' ca').cSt c.st
 generalize (((((((((W3.setCell ⟨p,0,none⟩ ((.slice (some ⟨gd',0,none⟩) 4 cd'))).setCell ⟨p,1,none⟩ ((.slice (some ⟨ga',0,none⟩) 4 ca'))).setCell ⟨p,2,none⟩ ((iv c.r.o))).setCell ⟨p,3,none⟩ ((iv c.r.p))).setCell ⟨p,4,none⟩ ((iv c.r.f))).setCell ⟨p,5,none⟩ ((iv c.r.m))).setCell ⟨p,6,none⟩ ((.bool c.r.s))).setCell ⟨p,7,none⟩ ((.bool c.r.t))).setCell ⟨p,10,none⟩ (.bool c.st))=Y at KP MY ⊢
 have hop:=HO3.o.p0
 have hob:=HO3.o.b0
 have hog:=HO3.o.g2
 have hobl:=HO3.o.pb
 have hopl:=HO3.o.pl
 have hos:=HO3.o.d0
 have hos2:=HO3.o.d1
 have HYd:=hide (HD3.o.ai KP (by omega)).row
 have HYa:=hide (HA3.o.ai KP (by omega)).row
 have HYb:=hide (HO3.o.b.ai KP (by omega)).row
 have HYl:=hide ((gQ HO3.o.l).ai KP (by omega)).row
 have KDY:=hide (ae (Kept.refl 0 0 Y))
 have HMY:=hide (MY.any KDY.o)
 have LY:=hide ((HL3.o.trans (qC KP (by omega) (by have:=HL3.o.size;omega))).drew)
 have HKY:=hide (dH K0.o LY.o K0.o.size)
 have CE:=hide (HB1.o.below LY.o (by have:=HXS.o;omega))
 have Cm:=hide (HB2.o.below LY.o (by have:=HXS.o;omega))
 have HN1:Hid (¬(w.heap.size+1≤p∧p<w.heap.size+1+1)):=hide (by have:=HXS.o;omega)
 have HN2:Hid (¬(w.heap.size+1+1≤p∧p<w.heap.size+1+1+1)):=hide (by have:=HXS.o;omega)
 have CF:∀W:World,MB W p gd' cd' ga' ca' g16 c16 g6 c26 {(sd.dh c.r) with st:=c.st}→W.cell? ⟨p,11,none⟩=some (iv sd.f.v)∧W.cell? ⟨p,12,none⟩=some (iv sd.f.pc)∧W.cell? ⟨p,13,none⟩=some (iv sd.f.ad)∧W.cell? ⟨p,14,none⟩=some (iv sd.f.wo)∧W.cell? ⟨p,15,none⟩=some (.bool sd.f.wr):=fun W h=>by have z:=yF h;exact z
 have SY:=CF _ HMY.o
 have hyz:X.heap.size≤Y.drew.heap.size:=LY.o.size
 clear KP MY
 go_region_held3 (fun w'=>w'.cell? ⟨p,11,none⟩=some (iv sd.f.v)∧w'.cell? ⟨p,12,none⟩=some (iv sd.f.pc)∧w'.cell? ⟨p,13,none⟩=some (iv sd.f.ad)∧w'.cell? ⟨p,14,none⟩=some (iv sd.f.wo)∧w'.cell? ⟨p,15,none⟩=some (.bool sd.f.wr)) (first|with_reducible exact SY|with_reducible exact S4|with_reducible exact CF _ (HM4.o.pI HN1.o _ _ _ _ _ _ _ _ _ _ _ _)|with_reducible exact CF _ ((HM4.o.pI HN1.o _ _ _ _ _ _ _ _ _ _ _ _).Dh HN2.o _ _ _ _ _)|go_keep) (first|(go_at_call 71;refine (zA _ p gd' cd' ga' ca' g16 c16 g6 c26 {(sd.dh c.r) with st:=c.st} HMY.o (HYd.o.ai KDY.o) (HYa.o.ai KDY.o) (HYb.o.ai KDY.o) (HYl.o.ai KDY.o) h4 h5 HGs.o.bx HGs.o.bl HGs.o.bm).mono ?_;unfold jI;rintro e9 W4 ⟨gd4,cd4,ga4,ca4,g14,c14,g24,c24,mid4,rfl,hc9,k9⟩;have HC:=hide hc9;have HM4:=hide (HMY.o.any k9);have S4:=CF _ HM4.o;have HK4:=hide (HKY.o.trans k9);have aK:=hide (CE.o.af k9);have dG:=hide (Cm.o.af k9);have hs4:=dG.o.lt;clear hc9 k9;have o0:=aK.o.cell (i:=0) rfl;have of0:=aK.o.frozen 0;have o1:=aK.o.cell (i:=1) rfl;have of1:=aK.o.frozen 1;have o2:=aK.o.cell (i:=2) rfl;have of2:=aK.o.frozen 2;have o3:=aK.o.cell (i:=3) rfl;have of3:=aK.o.frozen 3;have o4:=aK.o.cell (i:=4) rfl;have of4:=aK.o.frozen 4;have o5:=aK.o.cell (i:=5) rfl;have of5:=aK.o.frozen 5;have o6:=aK.o.cell (i:=6) rfl;have of6:=aK.o.frozen 6;have o7:=aK.o.cell (i:=7) rfl;have of7:=aK.o.frozen 7;have o8:=aK.o.cell (i:=8) rfl;have of8:=aK.o.frozen 8;have o9:=aK.o.cell (i:=9) rfl;have of9:=aK.o.frozen 9;have o10:=aK.o.cell (i:=10) rfl;have of10:=aK.o.frozen 10;have o11:=aK.o.cell (i:=11) rfl;have of11:=aK.o.frozen 11;have y0:=dG.o.cell (i:=0) rfl;have yf0:=dG.o.frozen 0;have y1:=dG.o.cell (i:=1) rfl;have yf1:=dG.o.frozen 1;have y2:=dG.o.cell (i:=2) rfl;have yf2:=dG.o.frozen 2;have y3:=dG.o.cell (i:=3) rfl;have yf3:=dG.o.frozen 3;have y4:=dG.o.cell (i:=4) rfl;have yf4:=dG.o.frozen 4))
 go_wp2_with fail
 have hxs:=HXS.o
 refine bodyPost_ret (v:=.tuple #[.agg (jI (Pl.aO c) gd4 cd4 ga4 ca4 g14 c14 g24 c24),.agg (ftC (Pl.dA c))]) ?_ rfl ⟨gd4,cd4,ga4,ca4,g14,c14,g24,c24,mid4,rfl,?co,?kw⟩
 case co=>
  rw [EC.o]
  refine HC.o.uZ (x:=w.heap.size+1) (y:=w.heap.size+3) (by omega) (by omega) ?_
  repeat (first|with_reducible exact Kept.refl _ _ _|refine ag ?_ _ _ _ (.inl (by omega)))
 case kw=>repeat (first|with_reducible exact HK4.o|refine ag ?_ _ _ _ (.inr (by omega)))
 rw [ik rfl,EC.o,EF.o];go_simp;exact ⟨rfl,rfl⟩
theorem EM (w:World) (c:Pl.Cp) (a b e q:Option Addr) (ca cb ce cq:Nat) (ha:aI w a c.r.xs) (hb:aI w b c.r.ys) (he:aI w e c.bx) (hq:aI w q c.bl) (hok:Pl.iP c=true) (hl:c.bl.length=5*c.bm) (hf:(Pl.Mc.ofC c).fetch.fine=true) (hp:Pl.iR (Pl.Mc.ofC c).ay=true) (hs:(Pl.Mc.ofC c).fetch.r.s=true) (hfs:(((Pl.Mc.ofC c).fetch.aJ (((Pl.Mc.ofC c).r.p+2*(Pl.Mc.ofC c).bC)%65536)).doI (Pl.Mc.ofC c).ay (Pl.Mc.ofC c).r.p).fine=true) :
  Calls prog 43 #[.agg #[.slice a 4 ca,.slice b 4 cb,iv c.r.o,iv c.r.p,iv c.r.f,iv c.r.m,.bool c.r.s,.bool c.r.t,.slice e 512 ce,.slice q c.bm cq,.bool c.st,.bool c.ha]] w fun r w'=>∃gd cd ga cA g1 c1 g2 c2 mid:Nat,r=.returned (.tuple #[.agg (jI (Pl.aO c) gd cd ga cA g1 c1 g2 c2),.agg (ftC (Pl.dA c))])∧CO w' w.heap.size mid (Pl.aO c) gd ga g1 g2 c2∧Kept 0 0 w w':=by
 have HG:=hide (Pl.GM.of hok hl c.st)
 have h4:=HG.o.g.d4
 have h5:=HG.o.g.a4
 have hbx:=HG.o.bx
 have hbm:=HG.o.bm
 have K0:=hide (ah (ah (kept_alloc w (.cells #[.slice a 4 ca,.slice b 4 cb,iv c.r.o,iv c.r.p,iv c.r.f,iv c.r.m,.bool c.r.s,.bool c.r.t,.slice e 512 ce,.slice q c.bm cq,.bool c.st,.bool c.ha] 36)) (.cells cpZ 36)) (.cells ftZ 49))
 have B0:=((Blk.new w #[.slice a 4 ca,.slice b 4 cb,iv c.r.o,iv c.r.p,iv c.r.f,iv c.r.m,.bool c.r.s,.bool c.r.t,.slice e 512 ce,.slice q c.bm cq,.bool c.st,.bool c.ha] 36).alloc (.cells cpZ 36)).alloc (.cells ftZ 49)
 have B1:=(Blk.new (w.alloc (.cells #[.slice a 4 ca,.slice b 4 cb,iv c.r.o,iv c.r.p,iv c.r.f,iv c.r.m,.bool c.r.s,.bool c.r.t,.slice e 512 ce,.slice q c.bm cq,.bool c.st,.bool c.ha] 36)) cpZ 36).alloc (.cells ftZ 49)
 have B2:=Blk.new ((w.alloc (.cells #[.slice a 4 ca,.slice b 4 cb,iv c.r.o,iv c.r.p,iv c.r.f,iv c.r.m,.bool c.r.s,.bool c.r.t,.slice e 512 ce,.slice q c.bm cq,.bool c.st,.bool c.ha] 36)).alloc (.cells cpZ 36)) ftZ 49
 simp only [World.size_alloc] at B1 B2
 obtain ⟨X,hX⟩:∃X:World,((w.alloc (.cells #[.slice a 4 ca,.slice b 4 cb,iv c.r.o,iv c.r.p,iv c.r.f,iv c.r.m,.bool c.r.s,.bool c.r.t,.slice e 512 ce,.slice q c.bm cq,.bool c.st,.bool c.ha] 36)).alloc (.cells cpZ 36)).alloc (.cells ftZ 49)=X:=⟨_,rfl⟩
 rw [hX] at K0 B0 B1 B2
 have hxs:X.heap.size=w.heap.size+3:=by rw [←hX];simp
 have HXS:=hide hxs
 have HB0:=hide B0
 have HB1:=hide B1
 have HB2:=hide B2
 have HA:=hide (ha.ai K0.o)
 have HB:=hide (hb.ai K0.o)
 have HE:=hide (he.ai K0.o)
 have HQ:=hide (hq.ai K0.o)
 have HAw:=hide ha
 have HBw:=hide hb
 clear B0 B1 B2 ha hb he hq hxs
 have i0:=HB0.o.all
 obtain ⟨hin,hfn⟩:=Pl.mX hf
 have hpp0:0≤(Pl.Mc.ofC c).r.p:=HG.o.p0
 have hpp1:(Pl.Mc.ofC c).r.p≤65535:=HG.o.p1
 have HGd:Hid (Pl.GM ((Pl.Mc.ofC c).fetch.aJ (((Pl.Mc.ofC c).r.p+2*(Pl.Mc.ofC c).bC)%65536))):=hide ((Pl.GM.fetch HG.o).aJ (by omega) (by omega))
 have hfd:((Pl.Mc.ofC c).fetch.aJ (((Pl.Mc.ofC c).r.p+2*(Pl.Mc.ofC c).bC)%65536)).fine=true:=hf
 have HGs:=hide (HGd.o.doI hin (Pl.Mc.ofC c).r.p)
 have HDO:=fun w9 mid hi p g3 h9=>mDo w9 X.heap.size mid hi p g3 ((Pl.Mc.ofC c).fetch.aJ (((Pl.Mc.ofC c).r.p+2*(Pl.Mc.ofC c).bC)%65536)) (Pl.Mc.ofC c).ay (Pl.Mc.ofC c).r.p h9 HGd.o hin hpp0 hpp1 hfd
 have ES:Pl.stepM c=((Pl.Mc.ofC c).fetch.aJ (((Pl.Mc.ofC c).r.p+2*(Pl.Mc.ofC c).bC)%65536)).doI (Pl.Mc.ofC c).ay (Pl.Mc.ofC c).r.p:=by
  have e1:(Pl.Mc.ofC c).s1=(Pl.Mc.ofC c).fetch:=by unfold Pl.Mc.s1;rw [hf,hp,hs];rfl
  unfold Pl.stepM Pl.Mc.s2;rw [e1,hf];rfl
 obtain ⟨sd,hsd⟩:∃s,((Pl.Mc.ofC c).fetch.aJ (((Pl.Mc.ofC c).r.p+2*(Pl.Mc.ofC c).bC)%65536)).doI (Pl.Mc.ofC c).ay (Pl.Mc.ofC c).r.p=s:=⟨_,rfl⟩
 rw [hsd] at HGs hfs ES
 simp only [hsd] at HDO
 clear hsd
 have EC:Hid (Pl.aO c=sd.cpu false):=hide (by unfold Pl.aO;rw [ES,hfs];rfl)
 have EF:Hid (Pl.dA c=Pl.aH):=hide (by unfold Pl.dA;rw [ES,hfs];rfl)
 have HBL:Hid (w.heap.size<X.heap.size):=hide (by have:=HXS.o;omega)
 have Us:Hid (w.heap.size+1<X.heap.size):=hide (by have:=HXS.o;omega)
 have Ur:Hid (w.heap.size+1+1<X.heap.size):=hide (by have:=HXS.o;omega)
 have HPV:Hid (Pl.iR ⟨(Pl.Mc.ofC c).ay.op,(Pl.Mc.ofC c).ay.z,(Pl.Mc.ofC c).ay.r,(Pl.Mc.ofC c).ay.m,(Pl.Mc.ofC c).ay.k,(Pl.Mc.ofC c).ay.e,(Pl.Mc.ofC c).ay.s⟩=true):=hide hp
 have hmk:=lX ((Pl.Mc.ofC c).r.p+2*(Pl.Mc.ofC c).bC)
 have hn0:1≤(Pl.Mc.ofC c).bC:=by omega
 have hn1:(Pl.Mc.ofC c).bC≤2:=by omega
 clear ES hp hfn hin hfd
 go_enter func43,ntmps43
 go_wp2_with (first|(go_at_call 68;have z9:=HM6;refine st (bK _ X.heap.size mid W1.heap.size p g6 _ HM6.o) ?_;rw [hfs])|(go_at_call 70;have z9:=HMd;refine (HDO _ mid W1.heap.size p g3 HMd.o).mono ?_;rintro e9 W6 ⟨rfl,g6,hm9,hb9⟩;have HM6:=hide hm9;have HL6:=hide (HLd.o.trans (fE hb9 HMd.o.qJ HLd.o.size));have HK6:=hide (dH K0.o HL6.o K0.o.size);have HZ6:=hide (HB0.o.below HL6.o HBL.o);clear hb9 x0 x1 x2 x3 x4 x5 x6 t3 t6 t11 f3 f11 i0;have i0:=HZ6.o.cell (i:=0) rfl;have i1:=HZ6.o.cell (i:=1) rfl;have i2:=HZ6.o.cell (i:=2) rfl;have i3:=HZ6.o.cell (i:=3) rfl;have i4:=HZ6.o.cell (i:=4) rfl;have i5:=HZ6.o.cell (i:=5) rfl;have i6:=HZ6.o.cell (i:=6) rfl;have i7:=HZ6.o.cell (i:=7) rfl;have i8:=HZ6.o.cell (i:=8) rfl;have i9:=HZ6.o.cell (i:=9) rfl;have i10:=HZ6.o.cell (i:=10) rfl;have i11:=HZ6.o.cell (i:=11) rfl;obtain ⟨gd6,cd6,ga6,ca6,g16,c16,c26,hB9,hO9⟩:=hm9;have HB6:=hide hB9;have HO6:=hide hO9;have hpw6:=hB9.lt;clear hB9 hO9)|(go_at_call 68;have z9:=HMd;refine st (bK _ X.heap.size mid W1.heap.size p g3 _ HM5.o) ?_;rw [hf])|(go_at_call 68;have z9:=HBm;refine st (bK _ X.heap.size mid W1.heap.size p g3 _ HMZ.o) ?_;rw [hf])|(go_at_call 66;refine (sO _ c a b e q ca cb ce cq HA.o HB.o HE.o HQ.o h4 h5 hbx hl hbm).mono ?_;rintro e9 W1 ⟨mid,p,g2,rfl,hm9,hp9,k9⟩;have HM1:=hide hm9;have HK1:=hide k9;have HP1:=hide hp9;have HL1:=hide (dm k9 (Nat.le_refl X.heap.size));obtain ⟨_,_,_,_,_,_,_,hB9,_⟩:=hm9;have hpw1:=hB9.lt;have t3:=(MB.cells hB9).2.2.2.1;clear hp9 k9 hB9)|(go_at_call 67;refine (sS _ X.heap.size mid W1.heap.size p g2 (Pl.Mc.ofC c) HM1.o HG.o).mono ?_;rintro e9 W2 ⟨rfl,g3,hm9,hb9⟩;have HM2:=hide hm9;have HS2:=hide hb9;have HL2:=hide (HL1.o.trans (fE hb9 HM1.o.qJ HL1.o.size));clear hm9 hb9 t3;unfold lY;have KZ:=kept_alloc W2 (.cells #[iv (Pl.Mc.ofC c).ay.op,iv (Pl.Mc.ofC c).ay.z,iv (Pl.Mc.ofC c).ay.r,iv (Pl.Mc.ofC c).ay.m,iv (Pl.Mc.ofC c).ay.k,iv (Pl.Mc.ofC c).ay.e,iv (Pl.Mc.ofC c).ay.s] 109);have BZ:=Blk.new W2 #[iv (Pl.Mc.ofC c).ay.op,iv (Pl.Mc.ofC c).ay.z,iv (Pl.Mc.ofC c).ay.r,iv (Pl.Mc.ofC c).ay.m,iv (Pl.Mc.ofC c).ay.k,iv (Pl.Mc.ofC c).ay.e,iv (Pl.Mc.ofC c).ay.s] 109;obtain ⟨Z,hZ⟩:∃Z:World,W2.alloc (.cells #[iv (Pl.Mc.ofC c).ay.op,iv (Pl.Mc.ofC c).ay.z,iv (Pl.Mc.ofC c).ay.r,iv (Pl.Mc.ofC c).ay.m,iv (Pl.Mc.ofC c).ay.k,iv (Pl.Mc.ofC c).ay.e,iv (Pl.Mc.ofC c).ay.s] 109)=Z:=⟨_,rfl⟩;rw [hZ] at KZ BZ;have HBZ:=hide BZ;have HMZ:=hide (HM2.o.any KZ);have HLZ:=hide (HL2.o.trans (dm KZ (Nat.le_trans (Nat.le_refl X.heap.size) HL2.o.size)));have HKZ:=hide (dH K0.o HLZ.o K0.o.size);clear KZ BZ;have HZB:=hide (HB0.o.below HLZ.o HBL.o);clear i0;have i0:=HZB.o.cell (i:=0) rfl;have i1:=HZB.o.cell (i:=1) rfl;have i2:=HZB.o.cell (i:=2) rfl;have i3:=HZB.o.cell (i:=3) rfl;have i4:=HZB.o.cell (i:=4) rfl;have i5:=HZB.o.cell (i:=5) rfl;have i6:=HZB.o.cell (i:=6) rfl;have i7:=HZB.o.cell (i:=7) rfl;have i8:=HZB.o.cell (i:=8) rfl;have i9:=HZB.o.cell (i:=9) rfl;have i10:=HZB.o.cell (i:=10) rfl;have i11:=HZB.o.cell (i:=11) rfl;have hzm:=HMZ.o;obtain ⟨gd,cd,ga,cA,g1,c1,c2,hB9,hO9⟩:=hzm;have HBm:=hide hB9;have HOm:=hide hO9;have hpz:=hB9.lt;clear hB9 hO9;have x0:=HBZ.o.cell (i:=0) rfl;have x1:=HBZ.o.cell (i:=1) rfl;have x2:=HBZ.o.cell (i:=2) rfl;have x3:=HBZ.o.cell (i:=3) rfl;have x4:=HBZ.o.cell (i:=4) rfl;have x5:=HBZ.o.cell (i:=5) rfl;have x6:=HBZ.o.cell (i:=6) rfl;have hzx:=HBZ.o.lt)|(go_at_call 69;have z9:=HBm;refine (oW _ (Pl.Mc.ofC c).ay.op (Pl.Mc.ofC c).ay.z (Pl.Mc.ofC c).ay.r (Pl.Mc.ofC c).ay.m (Pl.Mc.ofC c).ay.k (Pl.Mc.ofC c).ay.e (Pl.Mc.ofC c).ay.s).mono ?_;rintro e9 W5 ⟨rfl,k9⟩;rw [HPV.o];have HM5:=hide (HMZ.o.any k9);have HB5:=hide (HBm.o.any k9);have HO5:=hide (HOm.o.any k9);have HZ5:=hide (HZB.o.af k9);have HL5:=hide (HLZ.o.trans (dm k9 (Nat.le_trans (Nat.le_refl X.heap.size) HLZ.o.size)));have HK5:=hide (HKZ.o.trans k9);have HX5:=hide (HBZ.o.af k9);clear k9 x0 x1 x2 x3 x4 x5 x6 i0;have i0:=HZ5.o.cell (i:=0) rfl;have i1:=HZ5.o.cell (i:=1) rfl;have i2:=HZ5.o.cell (i:=2) rfl;have i3:=HZ5.o.cell (i:=3) rfl;have i4:=HZ5.o.cell (i:=4) rfl;have i5:=HZ5.o.cell (i:=5) rfl;have i6:=HZ5.o.cell (i:=6) rfl;have i7:=HZ5.o.cell (i:=7) rfl;have i8:=HZ5.o.cell (i:=8) rfl;have i9:=HZ5.o.cell (i:=9) rfl;have i10:=HZ5.o.cell (i:=10) rfl;have i11:=HZ5.o.cell (i:=11) rfl;have x0:=HX5.o.cell (i:=0) rfl;have x1:=HX5.o.cell (i:=1) rfl;have x2:=HX5.o.cell (i:=2) rfl;have x3:=HX5.o.cell (i:=3) rfl;have x4:=HX5.o.cell (i:=4) rfl;have x5:=HX5.o.cell (i:=5) rfl;have x6:=HX5.o.cell (i:=6) rfl;obtain ⟨t0,t1,t2,t3,t4,t5,t6,t7,t8,t9,t10,t11,_⟩:=HB5.o.cells;have f11:=HB5.o.frozen 11;have f3:=HB5.o.frozen 3;have hpw5:=HB5.o.lt;clear t0 t1 t2 t4 t5 t7 t8 t9 t10;rw [hs] at t6;have HMd:Hid (MAt (W5.setCell ⟨p,3,none⟩ (iv (((Pl.Mc.ofC c).r.p+2*(Pl.Mc.ofC c).bC)%65536))) X.heap.size mid W1.heap.size p g3 ((Pl.Mc.ofC c).fetch.aJ (((Pl.Mc.ofC c).r.p+2*(Pl.Mc.ofC c).bC)%65536))):=hide (HM5.o.cP (((Pl.Mc.ofC c).r.p+2*(Pl.Mc.ofC c).bC)%65536));have HLd:=hide (HL5.o.setCell (p:=⟨p,3,none⟩) HP1.o (iv (((Pl.Mc.ofC c).r.p+2*(Pl.Mc.ofC c).bC)%65536)));have hpx:p<W2.heap.size:=HM2.o.lo.2.2.2.2.1)|(go_at_call 71;refine (VB _ X.heap.size mid W1.heap.size p g6 sd HM6.o HGs.o).mono ?_;unfold jI;rintro e9 W4 ⟨gd4,cd4,ga4,ca4,g14,c14,g24,c24,mid4,rfl,hc9,k9⟩;have HC:=hide hc9;have HK4:=hide (HK6.o.trans k9);have aK:=hide ((HB1.o.below HL6.o Us.o).af k9);have dG:=hide ((HB2.o.below HL6.o Ur.o).af k9);have hs4:=dG.o.lt;clear hc9 k9;have o0:=aK.o.cell (i:=0) rfl;have of0:=aK.o.frozen 0;have o1:=aK.o.cell (i:=1) rfl;have of1:=aK.o.frozen 1;have o2:=aK.o.cell (i:=2) rfl;have of2:=aK.o.frozen 2;have o3:=aK.o.cell (i:=3) rfl;have of3:=aK.o.frozen 3;have o4:=aK.o.cell (i:=4) rfl;have of4:=aK.o.frozen 4;have o5:=aK.o.cell (i:=5) rfl;have of5:=aK.o.frozen 5;have o6:=aK.o.cell (i:=6) rfl;have of6:=aK.o.frozen 6;have o7:=aK.o.cell (i:=7) rfl;have of7:=aK.o.frozen 7;have o8:=aK.o.cell (i:=8) rfl;have of8:=aK.o.frozen 8;have o9:=aK.o.cell (i:=9) rfl;have of9:=aK.o.frozen 9;have o10:=aK.o.cell (i:=10) rfl;have of10:=aK.o.frozen 10;have o11:=aK.o.cell (i:=11) rfl;have of11:=aK.o.frozen 11;have y0:=dG.o.cell (i:=0) rfl;have yf0:=dG.o.frozen 0;have y1:=dG.o.cell (i:=1) rfl;have yf1:=dG.o.frozen 1;have y2:=dG.o.cell (i:=2) rfl;have yf2:=dG.o.frozen 2;have y3:=dG.o.cell (i:=3) rfl;have yf3:=dG.o.frozen 3;have y4:=dG.o.cell (i:=4) rfl;have yf4:=dG.o.frozen 4))
 have hxs:=HXS.o
 have hl6:=HL6.o.size
 refine bodyPost_ret (v:=.tuple #[.agg (jI (Pl.aO c) gd4 cd4 ga4 ca4 g14 c14 g24 c24),.agg (ftC (Pl.dA c))]) ?_ rfl ⟨gd4,cd4,ga4,ca4,g14,c14,g24,c24,mid4,rfl,?co,?kw⟩
 case co=>
  rw [EC.o]
  refine HC.o.uZ (x:=w.heap.size+1) (y:=w.heap.size+3) (by omega) (by omega) ?_
  repeat (first|with_reducible exact Kept.refl _ _ _|refine ag ?_ _ _ _ (.inl (by omega)))
 case kw=>repeat (first|with_reducible exact HK4.o|refine ag ?_ _ _ _ (.inr (by omega)))
 rw [ik rfl,EC.o,EF.o];go_simp;exact ⟨rfl,rfl⟩
theorem Be (w:World) (c:Pl.Cp) (a b e q:Option Addr) (ca cb ce cq:Nat) (ha:aI w a c.r.xs) (hb:aI w b c.r.ys) (he:aI w e c.bx) (hq:aI w q c.bl) (hok:Pl.iP c=true) (hl:c.bl.length=5*c.bm) (hf:(Pl.Mc.ofC c).fetch.fine=true) (hp:Pl.iR (Pl.Mc.ofC c).ay=true) (hs:(Pl.Mc.ofC c).fetch.r.s=true) (hfs:(((Pl.Mc.ofC c).fetch.aJ (((Pl.Mc.ofC c).r.p+2*(Pl.Mc.ofC c).bC)%65536)).doI (Pl.Mc.ofC c).ay (Pl.Mc.ofC c).r.p).fine=false) :
  Calls prog 43 #[.agg #[.slice a 4 ca,.slice b 4 cb,iv c.r.o,iv c.r.p,iv c.r.f,iv c.r.m,.bool c.r.s,.bool c.r.t,.slice e 512 ce,.slice q c.bm cq,.bool c.st,.bool c.ha]] w fun r w'=>∃gd cd ga cA g1 c1 g2 c2 mid:Nat,r=.returned (.tuple #[.agg (jI (Pl.aO c) gd cd ga cA g1 c1 g2 c2),.agg (ftC (Pl.dA c))])∧CO w' w.heap.size mid (Pl.aO c) gd ga g1 g2 c2∧Kept 0 0 w w':=by
 have HG:=hide (Pl.GM.of hok hl c.st)
 have h4:=HG.o.g.d4
 have h5:=HG.o.g.a4
 have hbx:=HG.o.bx
 have hbm:=HG.o.bm
 have K0:=hide (ah (ah (kept_alloc w (.cells #[.slice a 4 ca,.slice b 4 cb,iv c.r.o,iv c.r.p,iv c.r.f,iv c.r.m,.bool c.r.s,.bool c.r.t,.slice e 512 ce,.slice q c.bm cq,.bool c.st,.bool c.ha] 36)) (.cells cpZ 36)) (.cells ftZ 49))
 have B0:=((Blk.new w #[.slice a 4 ca,.slice b 4 cb,iv c.r.o,iv c.r.p,iv c.r.f,iv c.r.m,.bool c.r.s,.bool c.r.t,.slice e 512 ce,.slice q c.bm cq,.bool c.st,.bool c.ha] 36).alloc (.cells cpZ 36)).alloc (.cells ftZ 49)
 have B1:=(Blk.new (w.alloc (.cells #[.slice a 4 ca,.slice b 4 cb,iv c.r.o,iv c.r.p,iv c.r.f,iv c.r.m,.bool c.r.s,.bool c.r.t,.slice e 512 ce,.slice q c.bm cq,.bool c.st,.bool c.ha] 36)) cpZ 36).alloc (.cells ftZ 49)
 have B2:=Blk.new ((w.alloc (.cells #[.slice a 4 ca,.slice b 4 cb,iv c.r.o,iv c.r.p,iv c.r.f,iv c.r.m,.bool c.r.s,.bool c.r.t,.slice e 512 ce,.slice q c.bm cq,.bool c.st,.bool c.ha] 36)).alloc (.cells cpZ 36)) ftZ 49
 simp only [World.size_alloc] at B1 B2
 obtain ⟨X,hX⟩:∃X:World,((w.alloc (.cells #[.slice a 4 ca,.slice b 4 cb,iv c.r.o,iv c.r.p,iv c.r.f,iv c.r.m,.bool c.r.s,.bool c.r.t,.slice e 512 ce,.slice q c.bm cq,.bool c.st,.bool c.ha] 36)).alloc (.cells cpZ 36)).alloc (.cells ftZ 49)=X:=⟨_,rfl⟩
 rw [hX] at K0 B0 B1 B2
 have hxs:X.heap.size=w.heap.size+3:=by rw [←hX];simp
 have HXS:=hide hxs
 have HB0:=hide B0
 have HB1:=hide B1
 have HB2:=hide B2
 have HA:=hide (ha.ai K0.o)
 have HB:=hide (hb.ai K0.o)
 have HE:=hide (he.ai K0.o)
 have HQ:=hide (hq.ai K0.o)
 have HAw:=hide ha
 have HBw:=hide hb
 clear B0 B1 B2 ha hb he hq hxs
 have i0:=HB0.o.all
 obtain ⟨hin,hfn⟩:=Pl.mX hf
 have hpp0:0≤(Pl.Mc.ofC c).r.p:=HG.o.p0
 have hpp1:(Pl.Mc.ofC c).r.p≤65535:=HG.o.p1
 have HGd:Hid (Pl.GM ((Pl.Mc.ofC c).fetch.aJ (((Pl.Mc.ofC c).r.p+2*(Pl.Mc.ofC c).bC)%65536))):=hide ((Pl.GM.fetch HG.o).aJ (by omega) (by omega))
 have hfd:((Pl.Mc.ofC c).fetch.aJ (((Pl.Mc.ofC c).r.p+2*(Pl.Mc.ofC c).bC)%65536)).fine=true:=hf
 have HGs:=hide (HGd.o.doI hin (Pl.Mc.ofC c).r.p)
 have HDO:=fun w9 mid hi p g3 h9=>mDo w9 X.heap.size mid hi p g3 ((Pl.Mc.ofC c).fetch.aJ (((Pl.Mc.ofC c).r.p+2*(Pl.Mc.ofC c).bC)%65536)) (Pl.Mc.ofC c).ay (Pl.Mc.ofC c).r.p h9 HGd.o hin hpp0 hpp1 hfd
 have ES:Pl.stepM c=((Pl.Mc.ofC c).fetch.aJ (((Pl.Mc.ofC c).r.p+2*(Pl.Mc.ofC c).bC)%65536)).doI (Pl.Mc.ofC c).ay (Pl.Mc.ofC c).r.p:=by
  have e1:(Pl.Mc.ofC c).s1=(Pl.Mc.ofC c).fetch:=by unfold Pl.Mc.s1;rw [hf,hp,hs];rfl
  unfold Pl.stepM Pl.Mc.s2;rw [e1,hf];rfl
 obtain ⟨sd,hsd⟩:∃s,((Pl.Mc.ofC c).fetch.aJ (((Pl.Mc.ofC c).r.p+2*(Pl.Mc.ofC c).bC)%65536)).doI (Pl.Mc.ofC c).ay (Pl.Mc.ofC c).r.p=s:=⟨_,rfl⟩
 rw [hsd] at HGs hfs ES
 simp only [hsd] at HDO
 clear hsd
 have EC:Hid (Pl.aO c=Pl.Mc.cpu {(sd.dh c.r) with st:=c.st} false):=hide (by unfold Pl.aO;rw [ES,hfs];rfl)
 have EF:Hid (Pl.dA c=sd.f):=hide (by unfold Pl.dA;rw [ES,hfs];rfl)
 have HBL:Hid (w.heap.size<X.heap.size):=hide (by have:=HXS.o;omega)
 have HPV:Hid (Pl.iR ⟨(Pl.Mc.ofC c).ay.op,(Pl.Mc.ofC c).ay.z,(Pl.Mc.ofC c).ay.r,(Pl.Mc.ofC c).ay.m,(Pl.Mc.ofC c).ay.k,(Pl.Mc.ofC c).ay.e,(Pl.Mc.ofC c).ay.s⟩=true):=hide hp
 have hmk:=lX ((Pl.Mc.ofC c).r.p+2*(Pl.Mc.ofC c).bC)
 have hn0:1≤(Pl.Mc.ofC c).bC:=by omega
 have hn1:(Pl.Mc.ofC c).bC≤2:=by omega
 clear ES hp hfn hin hfd
 go_enter func43,ntmps43
 go_wp2_with (first|(go_at_call 68;have z9:=HM6;refine st (bK _ X.heap.size mid W1.heap.size p g6 _ HM6.o) ?_;rw [hfs])|(go_at_call 70;have z9:=HMd;refine (HDO _ mid W1.heap.size p g3 HMd.o).mono ?_;rintro e9 W6 ⟨rfl,g6,hm9,hb9⟩;have HM6:=hide hm9;have HL6:=hide (HLd.o.trans (fE hb9 HMd.o.qJ HLd.o.size));have HK6:=hide (dH K0.o HL6.o K0.o.size);have HZ6:=hide (HB0.o.below HL6.o HBL.o);clear hb9 x0 x1 x2 x3 x4 x5 x6 t3 t6 t11 f3 f11 i0;have i0:=HZ6.o.cell (i:=0) rfl;have i1:=HZ6.o.cell (i:=1) rfl;have i2:=HZ6.o.cell (i:=2) rfl;have i3:=HZ6.o.cell (i:=3) rfl;have i4:=HZ6.o.cell (i:=4) rfl;have i5:=HZ6.o.cell (i:=5) rfl;have i6:=HZ6.o.cell (i:=6) rfl;have i7:=HZ6.o.cell (i:=7) rfl;have i8:=HZ6.o.cell (i:=8) rfl;have i9:=HZ6.o.cell (i:=9) rfl;have i10:=HZ6.o.cell (i:=10) rfl;have i11:=HZ6.o.cell (i:=11) rfl;obtain ⟨gd6,cd6,ga6,ca6,g16,c16,c26,hB9,hO9⟩:=hm9;have HB6:=hide hB9;have HO6:=hide hO9;have hpw6:=hB9.lt;clear hB9 hO9)|(go_at_call 68;have z9:=HMd;refine st (bK _ X.heap.size mid W1.heap.size p g3 _ HM5.o) ?_;rw [hf])|(go_at_call 68;have z9:=HBm;refine st (bK _ X.heap.size mid W1.heap.size p g3 _ HMZ.o) ?_;rw [hf])|(go_at_call 66;refine (sO _ c a b e q ca cb ce cq HA.o HB.o HE.o HQ.o h4 h5 hbx hl hbm).mono ?_;rintro e9 W1 ⟨mid,p,g2,rfl,hm9,hp9,k9⟩;have HM1:=hide hm9;have HK1:=hide k9;have HP1:=hide hp9;have HL1:=hide (dm k9 (Nat.le_refl X.heap.size));obtain ⟨_,_,_,_,_,_,_,hB9,_⟩:=hm9;have hpw1:=hB9.lt;have t3:=(MB.cells hB9).2.2.2.1;clear hp9 k9 hB9)|(go_at_call 67;refine (sS _ X.heap.size mid W1.heap.size p g2 (Pl.Mc.ofC c) HM1.o HG.o).mono ?_;rintro e9 W2 ⟨rfl,g3,hm9,hb9⟩;have HM2:=hide hm9;have HS2:=hide hb9;have HL2:=hide (HL1.o.trans (fE hb9 HM1.o.qJ HL1.o.size));clear hm9 hb9 t3;unfold lY;have KZ:=kept_alloc W2 (.cells #[iv (Pl.Mc.ofC c).ay.op,iv (Pl.Mc.ofC c).ay.z,iv (Pl.Mc.ofC c).ay.r,iv (Pl.Mc.ofC c).ay.m,iv (Pl.Mc.ofC c).ay.k,iv (Pl.Mc.ofC c).ay.e,iv (Pl.Mc.ofC c).ay.s] 109);have BZ:=Blk.new W2 #[iv (Pl.Mc.ofC c).ay.op,iv (Pl.Mc.ofC c).ay.z,iv (Pl.Mc.ofC c).ay.r,iv (Pl.Mc.ofC c).ay.m,iv (Pl.Mc.ofC c).ay.k,iv (Pl.Mc.ofC c).ay.e,iv (Pl.Mc.ofC c).ay.s] 109;obtain ⟨Z,hZ⟩:∃Z:World,W2.alloc (.cells #[iv (Pl.Mc.ofC c).ay.op,iv (Pl.Mc.ofC c).ay.z,iv (Pl.Mc.ofC c).ay.r,iv (Pl.Mc.ofC c).ay.m,iv (Pl.Mc.ofC c).ay.k,iv (Pl.Mc.ofC c).ay.e,iv (Pl.Mc.ofC c).ay.s] 109)=Z:=⟨_,rfl⟩;rw [hZ] at KZ BZ;have HBZ:=hide BZ;have HMZ:=hide (HM2.o.any KZ);have HLZ:=hide (HL2.o.trans (dm KZ (Nat.le_trans (Nat.le_refl X.heap.size) HL2.o.size)));have HKZ:=hide (dH K0.o HLZ.o K0.o.size);clear KZ BZ;have HZB:=hide (HB0.o.below HLZ.o HBL.o);clear i0;have i0:=HZB.o.cell (i:=0) rfl;have i1:=HZB.o.cell (i:=1) rfl;have i2:=HZB.o.cell (i:=2) rfl;have i3:=HZB.o.cell (i:=3) rfl;have i4:=HZB.o.cell (i:=4) rfl;have i5:=HZB.o.cell (i:=5) rfl;have i6:=HZB.o.cell (i:=6) rfl;have i7:=HZB.o.cell (i:=7) rfl;have i8:=HZB.o.cell (i:=8) rfl;have i9:=HZB.o.cell (i:=9) rfl;have i10:=HZB.o.cell (i:=10) rfl;have i11:=HZB.o.cell (i:=11) rfl;have hzm:=HMZ.o;obtain ⟨gd,cd,ga,cA,g1,c1,c2,hB9,hO9⟩:=hzm;have HBm:=hide hB9;have HOm:=hide hO9;have hpz:=hB9.lt;clear hB9 hO9;have x0:=HBZ.o.cell (i:=0) rfl;have x1:=HBZ.o.cell (i:=1) rfl;have x2:=HBZ.o.cell (i:=2) rfl;have x3:=HBZ.o.cell (i:=3) rfl;have x4:=HBZ.o.cell (i:=4) rfl;have x5:=HBZ.o.cell (i:=5) rfl;have x6:=HBZ.o.cell (i:=6) rfl;have hzx:=HBZ.o.lt)|(go_at_call 69;have z9:=HBm;refine (oW _ (Pl.Mc.ofC c).ay.op (Pl.Mc.ofC c).ay.z (Pl.Mc.ofC c).ay.r (Pl.Mc.ofC c).ay.m (Pl.Mc.ofC c).ay.k (Pl.Mc.ofC c).ay.e (Pl.Mc.ofC c).ay.s).mono ?_;rintro e9 W5 ⟨rfl,k9⟩;rw [HPV.o];have HM5:=hide (HMZ.o.any k9);have HB5:=hide (HBm.o.any k9);have HO5:=hide (HOm.o.any k9);have HZ5:=hide (HZB.o.af k9);have HL5:=hide (HLZ.o.trans (dm k9 (Nat.le_trans (Nat.le_refl X.heap.size) HLZ.o.size)));have HK5:=hide (HKZ.o.trans k9);have HX5:=hide (HBZ.o.af k9);clear k9 x0 x1 x2 x3 x4 x5 x6 i0;have i0:=HZ5.o.cell (i:=0) rfl;have i1:=HZ5.o.cell (i:=1) rfl;have i2:=HZ5.o.cell (i:=2) rfl;have i3:=HZ5.o.cell (i:=3) rfl;have i4:=HZ5.o.cell (i:=4) rfl;have i5:=HZ5.o.cell (i:=5) rfl;have i6:=HZ5.o.cell (i:=6) rfl;have i7:=HZ5.o.cell (i:=7) rfl;have i8:=HZ5.o.cell (i:=8) rfl;have i9:=HZ5.o.cell (i:=9) rfl;have i10:=HZ5.o.cell (i:=10) rfl;have i11:=HZ5.o.cell (i:=11) rfl;have x0:=HX5.o.cell (i:=0) rfl;have x1:=HX5.o.cell (i:=1) rfl;have x2:=HX5.o.cell (i:=2) rfl;have x3:=HX5.o.cell (i:=3) rfl;have x4:=HX5.o.cell (i:=4) rfl;have x5:=HX5.o.cell (i:=5) rfl;have x6:=HX5.o.cell (i:=6) rfl;obtain ⟨t0,t1,t2,t3,t4,t5,t6,t7,t8,t9,t10,t11,_⟩:=HB5.o.cells;have f11:=HB5.o.frozen 11;have f3:=HB5.o.frozen 3;have hpw5:=HB5.o.lt;clear t0 t1 t2 t4 t5 t7 t8 t9 t10;rw [hs] at t6;have HMd:Hid (MAt (W5.setCell ⟨p,3,none⟩ (iv (((Pl.Mc.ofC c).r.p+2*(Pl.Mc.ofC c).bC)%65536))) X.heap.size mid W1.heap.size p g3 ((Pl.Mc.ofC c).fetch.aJ (((Pl.Mc.ofC c).r.p+2*(Pl.Mc.ofC c).bC)%65536))):=hide (HM5.o.cP (((Pl.Mc.ofC c).r.p+2*(Pl.Mc.ofC c).bC)%65536));have HLd:=hide (HL5.o.setCell (p:=⟨p,3,none⟩) HP1.o (iv (((Pl.Mc.ofC c).r.p+2*(Pl.Mc.ofC c).bC)%65536)));have hpx:p<W2.heap.size:=HM2.o.lo.2.2.2.2.1)|(go_at_call 64;have z9:=HB6;refine (own4 _ c.r a b ca cb (HAw.o.ai HK6.o) (HBw.o.ai HK6.o) h4 h5).mono ?_;unfold iK;rintro e9 W3 ⟨gd',cd',ga',ca',rfl,od,oa,d0,d1,a0,a1,da,k9⟩;have hplt:=HB6.o.lt;have HD3:=hide od;have HA3:=hide oa;have HB3:=hide (HB6.o.any k9);have HO3:=hide (HO6.o.any k9);have HK3:=hide (HK6.o.trans k9);have HZ3:=hide (HZ6.o.af k9);have HL3:=hide (HL6.o.trans (dm k9 (Nat.le_trans (Nat.le_refl X.heap.size) HL6.o.size)));clear od oa k9 i0;have i10:=HZ3.o.cell (i:=10) rfl;obtain ⟨u0,u1,u2,u3,u4,u5,u6,u7,u8,u9,u10,u11,u12,u13,u14,u15⟩:=HB3.o.cells;have q0:=HB3.o.frozen 0;have q1:=HB3.o.frozen 1;have q2:=HB3.o.frozen 2;have q3:=HB3.o.frozen 3;have q4:=HB3.o.frozen 4;have q5:=HB3.o.frozen 5;have q6:=HB3.o.frozen 6;have q7:=HB3.o.frozen 7;have q10:=HB3.o.frozen 10))
 have hd3:=HD3.o.lt (by rw [h4];decide)
 have KP:=(MB.jb (w:=W3) (p:=p) (.slice (some ⟨gd',0,none⟩) 4 cd') (.slice (some ⟨ga',0,none⟩) 4 ca') (iv c.r.o) (iv c.r.p) (iv c.r.f) (iv c.r.m) (.bool c.r.s) (.bool c.r.t)).one 10 (.bool c.st)
 have MY:MB (((((((((W3.setCell ⟨p,0,none⟩ ((.slice (some ⟨gd',0,none⟩) 4 cd'))).setCell ⟨p,1,none⟩ ((.slice (some ⟨ga',0,none⟩) 4 ca'))).setCell ⟨p,2,none⟩ ((iv c.r.o))).setCell ⟨p,3,none⟩ ((iv c.r.p))).setCell ⟨p,4,none⟩ ((iv c.r.f))).setCell ⟨p,5,none⟩ ((iv c.r.m))).setCell ⟨p,6,none⟩ ((.bool c.r.s))).setCell ⟨p,7,none⟩ ((.bool c.r.t))).setCell ⟨p,10,none⟩ (.bool c.st)) p gd' cd' ga' ca' g16 c16 g6 c26 {(sd.dh c.r) with st:=c.st}:=(HB3.o.laid2 c.r gd' cd' ga' ca').cSt c.st
 generalize (((((((((W3.setCell ⟨p,0,none⟩ ((.slice (some ⟨gd',0,none⟩) 4 cd'))).setCell ⟨p,1,none⟩ ((.slice (some ⟨ga',0,none⟩) 4 ca'))).setCell ⟨p,2,none⟩ ((iv c.r.o))).setCell ⟨p,3,none⟩ ((iv c.r.p))).setCell ⟨p,4,none⟩ ((iv c.r.f))).setCell ⟨p,5,none⟩ ((iv c.r.m))).setCell ⟨p,6,none⟩ ((.bool c.r.s))).setCell ⟨p,7,none⟩ ((.bool c.r.t))).setCell ⟨p,10,none⟩ (.bool c.st))=Y at KP MY ⊢
 have hop:=HO3.o.p0
 have hob:=HO3.o.b0
 have hog:=HO3.o.g2
 have hobl:=HO3.o.pb
 have hopl:=HO3.o.pl
 have hos:=HO3.o.d0
 have hos2:=HO3.o.d1
 have HYd:=hide (HD3.o.ai KP (by omega)).row
 have HYa:=hide (HA3.o.ai KP (by omega)).row
 have HYb:=hide (HO3.o.b.ai KP (by omega)).row
 have HYl:=hide ((gQ HO3.o.l).ai KP (by omega)).row
 have KDY:=hide (ae (Kept.refl 0 0 Y))
 have HMY:=hide (MY.any KDY.o)
 have LY:=hide ((HL3.o.trans (qC KP (by omega) (by have:=HL3.o.size;omega))).drew)
 have HKY:=hide (dH K0.o LY.o K0.o.size)
 have CE:=hide (HB1.o.below LY.o (by have:=HXS.o;omega))
 have Cm:=hide (HB2.o.below LY.o (by have:=HXS.o;omega))
 have HN1:Hid (¬(w.heap.size+1≤p∧p<w.heap.size+1+1)):=hide (by have:=HXS.o;omega)
 have HN2:Hid (¬(w.heap.size+1+1≤p∧p<w.heap.size+1+1+1)):=hide (by have:=HXS.o;omega)
 have CF:∀W:World,MB W p gd' cd' ga' ca' g16 c16 g6 c26 {(sd.dh c.r) with st:=c.st}→W.cell? ⟨p,11,none⟩=some (iv sd.f.v)∧W.cell? ⟨p,12,none⟩=some (iv sd.f.pc)∧W.cell? ⟨p,13,none⟩=some (iv sd.f.ad)∧W.cell? ⟨p,14,none⟩=some (iv sd.f.wo)∧W.cell? ⟨p,15,none⟩=some (.bool sd.f.wr):=fun W h=>by have z:=yF h;exact z
 have SY:=CF _ HMY.o
 have hyz:X.heap.size≤Y.drew.heap.size:=LY.o.size
 clear KP MY
 go_region_held3 (fun w'=>w'.cell? ⟨p,11,none⟩=some (iv sd.f.v)∧w'.cell? ⟨p,12,none⟩=some (iv sd.f.pc)∧w'.cell? ⟨p,13,none⟩=some (iv sd.f.ad)∧w'.cell? ⟨p,14,none⟩=some (iv sd.f.wo)∧w'.cell? ⟨p,15,none⟩=some (.bool sd.f.wr)) (first|with_reducible exact SY|with_reducible exact S4|with_reducible exact CF _ (HM4.o.pI HN1.o _ _ _ _ _ _ _ _ _ _ _ _)|with_reducible exact CF _ ((HM4.o.pI HN1.o _ _ _ _ _ _ _ _ _ _ _ _).Dh HN2.o _ _ _ _ _)|go_keep) (first|(go_at_call 71;refine (zA _ p gd' cd' ga' ca' g16 c16 g6 c26 {(sd.dh c.r) with st:=c.st} HMY.o (HYd.o.ai KDY.o) (HYa.o.ai KDY.o) (HYb.o.ai KDY.o) (HYl.o.ai KDY.o) h4 h5 HGs.o.bx HGs.o.bl HGs.o.bm).mono ?_;unfold jI;rintro e9 W4 ⟨gd4,cd4,ga4,ca4,g14,c14,g24,c24,mid4,rfl,hc9,k9⟩;have HC:=hide hc9;have HM4:=hide (HMY.o.any k9);have S4:=CF _ HM4.o;have HK4:=hide (HKY.o.trans k9);have aK:=hide (CE.o.af k9);have dG:=hide (Cm.o.af k9);have hs4:=dG.o.lt;clear hc9 k9;have o0:=aK.o.cell (i:=0) rfl;have of0:=aK.o.frozen 0;have o1:=aK.o.cell (i:=1) rfl;have of1:=aK.o.frozen 1;have o2:=aK.o.cell (i:=2) rfl;have of2:=aK.o.frozen 2;have o3:=aK.o.cell (i:=3) rfl;have of3:=aK.o.frozen 3;have o4:=aK.o.cell (i:=4) rfl;have of4:=aK.o.frozen 4;have o5:=aK.o.cell (i:=5) rfl;have of5:=aK.o.frozen 5;have o6:=aK.o.cell (i:=6) rfl;have of6:=aK.o.frozen 6;have o7:=aK.o.cell (i:=7) rfl;have of7:=aK.o.frozen 7;have o8:=aK.o.cell (i:=8) rfl;have of8:=aK.o.frozen 8;have o9:=aK.o.cell (i:=9) rfl;have of9:=aK.o.frozen 9;have o10:=aK.o.cell (i:=10) rfl;have of10:=aK.o.frozen 10;have o11:=aK.o.cell (i:=11) rfl;have of11:=aK.o.frozen 11;have y0:=dG.o.cell (i:=0) rfl;have yf0:=dG.o.frozen 0;have y1:=dG.o.cell (i:=1) rfl;have yf1:=dG.o.frozen 1;have y2:=dG.o.cell (i:=2) rfl;have yf2:=dG.o.frozen 2;have y3:=dG.o.cell (i:=3) rfl;have yf3:=dG.o.frozen 3;have y4:=dG.o.cell (i:=4) rfl;have yf4:=dG.o.frozen 4))
 go_wp2_with fail
 have hxs:=HXS.o
 refine bodyPost_ret (v:=.tuple #[.agg (jI (Pl.aO c) gd4 cd4 ga4 ca4 g14 c14 g24 c24),.agg (ftC (Pl.dA c))]) ?_ rfl ⟨gd4,cd4,ga4,ca4,g14,c14,g24,c24,mid4,rfl,?co,?kw⟩
 case co=>
  rw [EC.o]
  refine HC.o.uZ (x:=w.heap.size+1) (y:=w.heap.size+3) (by omega) (by omega) ?_
  repeat (first|with_reducible exact Kept.refl _ _ _|refine ag ?_ _ _ _ (.inl (by omega)))
 case kw=>repeat (first|with_reducible exact HK4.o|refine ag ?_ _ _ _ (.inr (by omega)))
 rw [ik rfl,EC.o,EF.o];go_simp;exact ⟨rfl,rfl⟩
theorem Vx (w:World) (c:Pl.Cp) (a b e q:Option Addr) (ca cb ce cq:Nat) (ha:aI w a c.r.xs) (hb:aI w b c.r.ys) (he:aI w e c.bx) (hq:aI w q c.bl) (hok:Pl.iP c=true) (hl:c.bl.length=5*c.bm) :
  Calls prog 43 #[.agg #[.slice a 4 ca,.slice b 4 cb,iv c.r.o,iv c.r.p,iv c.r.f,iv c.r.m,.bool c.r.s,.bool c.r.t,.slice e 512 ce,.slice q c.bm cq,.bool c.st,.bool c.ha]] w fun r w'=>∃gd cd ga cA g1 c1 g2 c2 mid:Nat,r=.returned (.tuple #[.agg (jI (Pl.aO c) gd cd ga cA g1 c1 g2 c2),.agg (ftC (Pl.dA c))])∧CO w' w.heap.size mid (Pl.aO c) gd ga g1 g2 c2∧Kept 0 0 w w':=by
 cases hf:(Pl.Mc.ofC c).fetch.fine
 ·exact zt w c a b e q ca cb ce cq ha hb he hq hok hl hf
 ·cases hp:Pl.iR (Pl.Mc.ofC c).ay
  ·cases hfs:(((Pl.Mc.ofC c).fetch.aJ (((Pl.Mc.ofC c).r.p+2*(Pl.Mc.ofC c).bC)%65536)).doI (Pl.Mc.ofC c).ay (Pl.Mc.ofC c).r.p).fine
   ·exact EP w c a b e q ca cb ce cq ha hb he hq hok hl hf hp hfs
   ·exact IY w c a b e q ca cb ce cq ha hb he hq hok hl hf hp hfs
  ·cases hs:(Pl.Mc.ofC c).fetch.r.s
   ·exact Bf w c a b e q ca cb ce cq ha hb he hq hok hl hf hp hs
   ·cases hfs:(((Pl.Mc.ofC c).fetch.aJ (((Pl.Mc.ofC c).r.p+2*(Pl.Mc.ofC c).bC)%65536)).doI (Pl.Mc.ofC c).ay (Pl.Mc.ofC c).r.p).fine
    ·exact Be w c a b e q ca cb ce cq ha hb he hq hok hl hf hp hs hfs
    ·exact EM w c a b e q ca cb ce cq ha hb he hq hok hl hf hp hs hfs
theorem lG (w:World) (c:Pl.Cp) (a b e q:Option Addr) (ca cb ce cq:Nat) (ha:aI w a c.r.xs) (hb:aI w b c.r.ys) (he:aI w e c.bx) (hq:aI w q c.bl) (lx:c.r.xs.length≤2000000) (ly:c.r.ys.length≤2000000) (lb:c.bx.length≤2000000) (ll:c.bl.length=5*c.bm) (lm:c.bm≤2000000) :
  Calls prog 26 #[.agg #[.slice a c.r.xs.length ca,.slice b c.r.ys.length cb,iv c.r.o,iv c.r.p,iv c.r.f,iv c.r.m,.bool c.r.s,.bool c.r.t,.slice e c.bx.length ce,.slice q c.bm cq,.bool c.st,.bool c.ha]] w fun r w'=>r=.returned (.bool (Pl.iP c))∧Kept 0 0 w w':=by
 have K0:=hide (kept_alloc w (.cells #[.slice a c.r.xs.length ca,.slice b c.r.ys.length cb,iv c.r.o,iv c.r.p,iv c.r.f,iv c.r.m,.bool c.r.s,.bool c.r.t,.slice e c.bx.length ce,.slice q c.bm cq,.bool c.st,.bool c.ha] 36))
 have BA:=Blk.new w #[.slice a c.r.xs.length ca,.slice b c.r.ys.length cb,iv c.r.o,iv c.r.p,iv c.r.f,iv c.r.m,.bool c.r.s,.bool c.r.t,.slice e c.bx.length ce,.slice q c.bm cq,.bool c.st,.bool c.ha] 36
 obtain ⟨X,hX⟩:∃X:World,w.alloc (.cells #[.slice a c.r.xs.length ca,.slice b c.r.ys.length cb,iv c.r.o,iv c.r.p,iv c.r.f,iv c.r.m,.bool c.r.s,.bool c.r.t,.slice e c.bx.length ce,.slice q c.bm cq,.bool c.st,.bool c.ha] 36)=X:=⟨_,rfl⟩
 rw [hX] at K0 BA
 have HBA:=hide BA
 have HA:=hide (ha.ai K0.o)
 have HB:=hide (hb.ai K0.o)
 have HE:=hide (he.ai K0.o)
 have HQ:=hide (hq.ai K0.o)
 clear BA ha hb he hq
 have i0:=HBA.o.cell (i:=0) rfl
 have i1:=HBA.o.cell (i:=1) rfl
 have i2:=HBA.o.cell (i:=2) rfl
 have i3:=HBA.o.cell (i:=3) rfl
 have i4:=HBA.o.cell (i:=4) rfl
 have i5:=HBA.o.cell (i:=5) rfl
 have i6:=HBA.o.cell (i:=6) rfl
 have i7:=HBA.o.cell (i:=7) rfl
 have i8:=HBA.o.cell (i:=8) rfl
 have i9:=HBA.o.cell (i:=9) rfl
 have i10:=HBA.o.cell (i:=10) rfl
 have i11:=HBA.o.cell (i:=11) rfl
 cases h1:Pl.sJ c.r
 ·go_enter func26,ntmps26
  go_wp2_with (first|(go_at_call 48;refine (kG _ c.r a b ca cb HA.o HB.o lx ly).mono ?_;rintro e9 W ⟨rfl,k9⟩;rw [h1];have HK1:=hide k9;have HB1:=hide (HBA.o.af k9);have HE1:=hide (HE.o.ai k9);have HQ1:=hide (HQ.o.ai k9);clear k9 i0 i1 i2 i3 i4 i5 i6 i7 i8 i9 i10 i11;have i0:=HB1.o.cell (i:=0) rfl;have i1:=HB1.o.cell (i:=1) rfl;have i2:=HB1.o.cell (i:=2) rfl;have i3:=HB1.o.cell (i:=3) rfl;have i4:=HB1.o.cell (i:=4) rfl;have i5:=HB1.o.cell (i:=5) rfl;have i6:=HB1.o.cell (i:=6) rfl;have i7:=HB1.o.cell (i:=7) rfl;have i8:=HB1.o.cell (i:=8) rfl;have i9:=HB1.o.cell (i:=9) rfl;have i10:=HB1.o.cell (i:=10) rfl;have i11:=HB1.o.cell (i:=11) rfl))
  go_ret
  exact ⟨rB (by unfold Pl.iP;simp [h1]),K0.o.trans HK1.o⟩
 ·cases h2:Pl.fF c.bx c.bl c.bm
  ·go_enter func26,ntmps26
   go_wp2_with (first|(go_at_call 49;have z9:=HB1;refine (oZ _ e q ce cq c.bm c.bx c.bl HE1.o HQ1.o lb ll lm).mono ?_;rintro e9 W2 ⟨rfl,k9⟩;rw [h2];have HK2:=hide k9;have HB2:=hide (HB1.o.af k9);clear k9 i0 i1 i2 i3 i4 i5 i6 i7 i8 i9 i10 i11;have i0:=HB2.o.cell (i:=0) rfl;have i1:=HB2.o.cell (i:=1) rfl;have i2:=HB2.o.cell (i:=2) rfl;have i3:=HB2.o.cell (i:=3) rfl;have i4:=HB2.o.cell (i:=4) rfl;have i5:=HB2.o.cell (i:=5) rfl;have i6:=HB2.o.cell (i:=6) rfl;have i7:=HB2.o.cell (i:=7) rfl;have i8:=HB2.o.cell (i:=8) rfl;have i9:=HB2.o.cell (i:=9) rfl;have i10:=HB2.o.cell (i:=10) rfl;have i11:=HB2.o.cell (i:=11) rfl)|(go_at_call 48;refine (kG _ c.r a b ca cb HA.o HB.o lx ly).mono ?_;rintro e9 W ⟨rfl,k9⟩;rw [h1];have HK1:=hide k9;have HB1:=hide (HBA.o.af k9);have HE1:=hide (HE.o.ai k9);have HQ1:=hide (HQ.o.ai k9);clear k9 i0 i1 i2 i3 i4 i5 i6 i7 i8 i9 i10 i11;have i0:=HB1.o.cell (i:=0) rfl;have i1:=HB1.o.cell (i:=1) rfl;have i2:=HB1.o.cell (i:=2) rfl;have i3:=HB1.o.cell (i:=3) rfl;have i4:=HB1.o.cell (i:=4) rfl;have i5:=HB1.o.cell (i:=5) rfl;have i6:=HB1.o.cell (i:=6) rfl;have i7:=HB1.o.cell (i:=7) rfl;have i8:=HB1.o.cell (i:=8) rfl;have i9:=HB1.o.cell (i:=9) rfl;have i10:=HB1.o.cell (i:=10) rfl;have i11:=HB1.o.cell (i:=11) rfl))
   go_ret
   exact ⟨rB (by unfold Pl.iP;simp [h1,h2]),(K0.o.trans HK1.o).trans HK2.o⟩
  ·rcases Bool.eq_false_or_eq_true c.st with h3|h3
   ·have H3:=hide h3
    rw [H3.o] at i10
    clear h3
    go_enter func26,ntmps26
    go_wp2_with (first|(go_at_call 49;have z9:=HB1;refine (oZ _ e q ce cq c.bm c.bx c.bl HE1.o HQ1.o lb ll lm).mono ?_;rintro e9 W2 ⟨rfl,k9⟩;rw [h2];have HK2:=hide k9;have HB2:=hide (HB1.o.af k9);clear k9 i0 i1 i2 i3 i4 i5 i6 i7 i8 i9 i10 i11;have i0:=HB2.o.cell (i:=0) rfl;have i1:=HB2.o.cell (i:=1) rfl;have i2:=HB2.o.cell (i:=2) rfl;have i3:=HB2.o.cell (i:=3) rfl;have i4:=HB2.o.cell (i:=4) rfl;have i5:=HB2.o.cell (i:=5) rfl;have i6:=HB2.o.cell (i:=6) rfl;have i7:=HB2.o.cell (i:=7) rfl;have i8:=HB2.o.cell (i:=8) rfl;have i9:=HB2.o.cell (i:=9) rfl;have i10:=HB2.o.cell (i:=10) rfl;have i11:=HB2.o.cell (i:=11) rfl;rw [H3.o] at i10)|(go_at_call 48;refine (kG _ c.r a b ca cb HA.o HB.o lx ly).mono ?_;rintro e9 W ⟨rfl,k9⟩;rw [h1];have HK1:=hide k9;have HB1:=hide (HBA.o.af k9);have HE1:=hide (HE.o.ai k9);have HQ1:=hide (HQ.o.ai k9);clear k9 i0 i1 i2 i3 i4 i5 i6 i7 i8 i9 i10 i11;have i0:=HB1.o.cell (i:=0) rfl;have i1:=HB1.o.cell (i:=1) rfl;have i2:=HB1.o.cell (i:=2) rfl;have i3:=HB1.o.cell (i:=3) rfl;have i4:=HB1.o.cell (i:=4) rfl;have i5:=HB1.o.cell (i:=5) rfl;have i6:=HB1.o.cell (i:=6) rfl;have i7:=HB1.o.cell (i:=7) rfl;have i8:=HB1.o.cell (i:=8) rfl;have i9:=HB1.o.cell (i:=9) rfl;have i10:=HB1.o.cell (i:=10) rfl;have i11:=HB1.o.cell (i:=11) rfl;rw [H3.o] at i10))
    go_ret
    exact ⟨rB (by unfold Pl.iP;simp [h1,h2,H3.o]),(K0.o.trans HK1.o).trans HK2.o⟩
   ·have H3:=hide h3
    rw [H3.o] at i10
    clear h3
    go_enter func26,ntmps26
    go_wp2_with (first|(go_at_call 49;have z9:=HB1;refine (oZ _ e q ce cq c.bm c.bx c.bl HE1.o HQ1.o lb ll lm).mono ?_;rintro e9 W2 ⟨rfl,k9⟩;rw [h2];have HK2:=hide k9;have HB2:=hide (HB1.o.af k9);clear k9 i0 i1 i2 i3 i4 i5 i6 i7 i8 i9 i10 i11;have i0:=HB2.o.cell (i:=0) rfl;have i1:=HB2.o.cell (i:=1) rfl;have i2:=HB2.o.cell (i:=2) rfl;have i3:=HB2.o.cell (i:=3) rfl;have i4:=HB2.o.cell (i:=4) rfl;have i5:=HB2.o.cell (i:=5) rfl;have i6:=HB2.o.cell (i:=6) rfl;have i7:=HB2.o.cell (i:=7) rfl;have i8:=HB2.o.cell (i:=8) rfl;have i9:=HB2.o.cell (i:=9) rfl;have i10:=HB2.o.cell (i:=10) rfl;have i11:=HB2.o.cell (i:=11) rfl;rw [H3.o] at i10)|(go_at_call 48;refine (kG _ c.r a b ca cb HA.o HB.o lx ly).mono ?_;rintro e9 W ⟨rfl,k9⟩;rw [h1];have HK1:=hide k9;have HB1:=hide (HBA.o.af k9);have HE1:=hide (HE.o.ai k9);have HQ1:=hide (HQ.o.ai k9);clear k9 i0 i1 i2 i3 i4 i5 i6 i7 i8 i9 i10 i11;have i0:=HB1.o.cell (i:=0) rfl;have i1:=HB1.o.cell (i:=1) rfl;have i2:=HB1.o.cell (i:=2) rfl;have i3:=HB1.o.cell (i:=3) rfl;have i4:=HB1.o.cell (i:=4) rfl;have i5:=HB1.o.cell (i:=5) rfl;have i6:=HB1.o.cell (i:=6) rfl;have i7:=HB1.o.cell (i:=7) rfl;have i8:=HB1.o.cell (i:=8) rfl;have i9:=HB1.o.cell (i:=9) rfl;have i10:=HB1.o.cell (i:=10) rfl;have i11:=HB1.o.cell (i:=11) rfl;rw [H3.o] at i10))
    go_ret
    exact ⟨rB (by unfold Pl.iP;simp [h1,h2,H3.o]),(K0.o.trans HK1.o).trans HK2.o⟩
def pY (c:Pl.Cp) (a b e q:Option Addr) (ca cb ce cq:Nat):Array Value:=#[.slice a c.r.xs.length ca,.slice b c.r.ys.length cb,iv c.r.o,iv c.r.p,iv c.r.f,iv c.r.m,.bool c.r.s,.bool c.r.t,.slice e c.bx.length ce,.slice q c.bm cq,.bool c.st,.bool c.ha]
structure lQ (w:World) (base:Nat) (c:Pl.Cp) (a b e q:Option Addr):Prop where
 d:aZ w base w.heap.size a c.r.xs
 a':aZ w base w.heap.size b c.r.ys
 b':aZ w base w.heap.size e c.bx
 l:aZ w base w.heap.size q c.bl
 n1:∀g,blk a=some g→blk b≠some g
 n2:∀g,blk a=some g→blk e≠some g
 n3:∀g,blk a=some g→blk q≠some g
 n4:∀g,blk b=some g→blk e≠some g
 n5:∀g,blk b=some g→blk q≠some g
 n6:∀g,blk e=some g→blk q≠some g
theorem CO.VX {w:World} {lo mid gd ga g1 g2 c2:Nat} {c:Pl.Cp} (h:CO w lo mid c gd ga g1 g2 c2):lQ w lo c (some ⟨gd,0,none⟩) (some ⟨ga,0,none⟩) (some ⟨g1,0,none⟩) (some ⟨g2,0,none⟩):=by
 have:=h.d0;have:=h.d1;have:=h.a0;have:=h.a1;have:=h.da;have:=h.b0;have:=h.b1;have:=h.bl
 have q:=h.l.lt g2 rfl
 refine ⟨.inr ⟨gd,rfl,by omega,by omega,h.d⟩,.inr ⟨ga,rfl,by omega,by omega,h.a⟩,.inr ⟨g1,rfl,by omega,by omega,h.b⟩,.inr ⟨g2,rfl,by omega,by omega,gQ h.l⟩,?_,?_,?_,?_,?_,?_⟩ <;>
 ·intro g e1 e2
  simp [blk] at e1 e2
  omega
theorem ng (w:World) (base:Nat):lQ w base Pl.yB none none none none:=
 ⟨.inl ⟨rfl,rfl⟩,.inl ⟨rfl,rfl⟩,.inl ⟨rfl,rfl⟩,.inl ⟨rfl,rfl⟩,by simp [blk],by simp [blk],by simp [blk],by simp [blk],by simp [blk],by simp [blk]⟩
def Pl.je (c:Pl.Cp):Bool:=Pl.iP c&&(!c.st && !c.ha)
def Pl.scC (c:Pl.Cp):Pl.Cp:=bif Pl.je c then Pl.aO c else Pl.yB
def Pl.scF (c:Pl.Cp):Pl.Ft:=bif Pl.je c then Pl.dA c else Pl.aH
theorem Pl.GM.step {c:Pl.Cp} (h:Pl.iP c=true) (hl:c.bl.length=5*c.bm):Pl.GM (Pl.stepM c):=by
 have g:Pl.GM (Pl.Mc.ofC c):=Pl.GM.of h hl c.st
 have gf:=Pl.GM.fetch g
 have h1:Pl.GM (Pl.Mc.ofC c).s1:=by
  unfold Pl.Mc.s1
  cases ((Pl.Mc.ofC c).fetch.fine&&(Pl.iR (Pl.Mc.ofC c).ay && !(Pl.Mc.ofC c).fetch.r.s))
  ·exact gf
  ·exact gf.ft _
 unfold Pl.stepM Pl.Mc.s2
 cases hs:(Pl.Mc.ofC c).s1.fine
 ·exact h1
 ·have hf:(Pl.Mc.ofC c).fetch.fine=true:=by
   cases q:(Pl.Mc.ofC c).fetch.fine
   ·unfold Pl.Mc.s1 at hs;rw [q] at hs;simp only [Bool.false_and,cond_false] at hs;rw [q] at hs;exact hs
   ·rfl
  exact (h1.aJ (by omega) (by omega)).doI (Pl.mX hf).1 _
theorem Pl.G7 {c:Pl.Cp} (h:Pl.iP c=true) (hl:c.bl.length=5*c.bm):(Pl.aO c).r.xs.length=4∧(Pl.aO c).r.ys.length=4∧(Pl.aO c).bx.length=512:=by
 have g:=Pl.GM.of h hl c.st
 have gs:=Pl.GM.step h hl
 unfold Pl.aO
 cases (Pl.stepM c).fine
 ·exact ⟨g.g.d4,g.g.a4,gs.bx⟩
 ·exact ⟨gs.g.d4,gs.g.a4,gs.bx⟩
theorem iy {fn:Func} {p q u:Tmp} {ty tz:TypeId} (h:fn.results=#[.cell p ty,.cell q tz,.tmp u]) (tmps:Array Value) (P:Program) (w:World) :
  (results fn tmps).run P w=((asAddr (tmps.getD p undef)).run P w).andThen fun a w₁=>((loadVar ty a).run P w₁).andThen fun v w₂=>((asAddr (tmps.getD q undef)).run P w₂).andThen fun b w₃=>((loadVar tz b).run P w₃).andThen fun y w₄=>.ok (.tuple #[v,y,tmps.getD u undef]) w₄:=by
 simp only [results,h]
 simp [Sem.run_bind,Result.andThen]
theorem uk (w:World) (c:Pl.Cp) (a b e q:Option Addr) (ca cb ce cq:Nat) (ha:aI w a c.r.xs) (hb:aI w b c.r.ys) (he:aI w e c.bx) (hq:aI w q c.bl) (lx:c.r.xs.length≤2000000) (ly:c.r.ys.length≤2000000) (lb:c.bx.length≤2000000) (ll:c.bl.length=5*c.bm) (lm:c.bm≤2000000) (h1:Pl.iP c=false) :
  Calls prog 19 #[.agg (cpA c a b e q ca cb ce cq)] w fun r w'=>∃(a' b' e' q':Option Addr) (ca' cb' ce' cq':Nat),r=.returned (.tuple #[.agg (pY (Pl.scC c) a' b' e' q' ca' cb' ce' cq'),.agg (ftC (Pl.scF c)),.bool (Pl.je c)])∧lQ w' w.heap.size (Pl.scC c) a' b' e' q'∧Kept 0 0 w w':=by
 have EO:Hid (Pl.je c=false):=hide (by unfold Pl.je;rw [h1];simp)
 have EC:Hid (Pl.scC c=Pl.yB):=hide (by unfold Pl.scC;rw [EO.o];rfl)
 have EF:Hid (Pl.scF c=Pl.aH):=hide (by unfold Pl.scF;rw [EO.o];rfl)
 have K0:=hide (ah (ah (kept_alloc w (.cells (cpA c a b e q ca cb ce cq) 36)) (.cells cpZ 36)) (.cells ftZ 49))
 have B0:=((Blk.new w (cpA c a b e q ca cb ce cq) 36).alloc (.cells cpZ 36)).alloc (.cells ftZ 49)
 have B1:=(Blk.new (w.alloc (.cells (cpA c a b e q ca cb ce cq) 36)) cpZ 36).alloc (.cells ftZ 49)
 have B2:=Blk.new ((w.alloc (.cells (cpA c a b e q ca cb ce cq) 36)).alloc (.cells cpZ 36)) ftZ 49
 simp only [World.size_alloc] at B1 B2
 obtain ⟨X,hX⟩:∃X:World,((w.alloc (.cells (cpA c a b e q ca cb ce cq) 36)).alloc (.cells cpZ 36)).alloc (.cells ftZ 49)=X:=⟨_,rfl⟩
 rw [hX] at K0 B0 B1 B2
 have HXS:Hid (X.heap.size=w.heap.size+3):=hide (by rw [←hX];simp)
 have HB0:=hide B0
 have HB1:=hide B1
 have HB2:=hide B2
 have HA:=hide (ha.ai K0.o)
 have HB:=hide (hb.ai K0.o)
 have HE:=hide (he.ai K0.o)
 have HQ:=hide (hq.ai K0.o)
 clear B0 B1 B2 ha hb he hq
 have i0:=HB0.o.all
 go_enter func19,ntmps19
 go_wp2_with (go_at_call 26;refine (lG _ c a b e q ca cb ce cq HA.o HB.o HE.o HQ.o lx ly lb ll lm).mono ?_;rintro e9 W ⟨rfl,k9⟩;rw [h1];have HK1:=hide (K0.o.trans k9);have HI1:=hide (HB0.o.af k9);have HO1:=hide (HB1.o.af k9);have HO2:=hide (HB2.o.af k9);have hs1:=HO2.o.lt;have HSz:=hide k9.size;have HA1:=hide (HA.o.ai k9);have Qk:=hide (HB.o.ai k9);have HE1:=hide (HE.o.ai k9);have HQ1:=hide (HQ.o.ai k9);clear k9 i0;have i0:=HI1.o.all;have o0:=HO1.o.all;have of0:=HO1.o.fz;have y0:=HO2.o.all;have yf0:=HO2.o.fz;have yf4:=HO2.o.frozen 4)
 have hxs:=HXS.o
 refine bodyPost_ret (v:=.tuple #[.agg (pY (Pl.scC c) none none none none 0 0 0 0),.agg (ftC (Pl.scF c)),.bool (Pl.je c)]) ?_ rfl ⟨none,none,none,none,0,0,0,0,rfl,by rw [EC.o];exact ng _ _,?kw⟩
 case kw=>repeat (first|with_reducible exact HK1.o|refine ag ?_ _ _ _ (.inr (by omega)))
 rw [iy rfl,EC.o,EF.o,EO.o];go_simp;exact ⟨rfl,rfl⟩
theorem sD (w:World) (c:Pl.Cp) (a b e q:Option Addr) (ca cb ce cq:Nat) (ha:aI w a c.r.xs) (hb:aI w b c.r.ys) (he:aI w e c.bx) (hq:aI w q c.bl) (lx:c.r.xs.length≤2000000) (ly:c.r.ys.length≤2000000) (lb:c.bx.length≤2000000) (ll:c.bl.length=5*c.bm) (lm:c.bm≤2000000) (h1:Pl.iP c=true) (h2:c.st=true) :
  Calls prog 19 #[.agg (cpA c a b e q ca cb ce cq)] w fun r w'=>∃(a' b' e' q':Option Addr) (ca' cb' ce' cq':Nat),r=.returned (.tuple #[.agg (pY (Pl.scC c) a' b' e' q' ca' cb' ce' cq'),.agg (ftC (Pl.scF c)),.bool (Pl.je c)])∧lQ w' w.heap.size (Pl.scC c) a' b' e' q'∧Kept 0 0 w w':=by
 have EO:Hid (Pl.je c=false):=hide (by unfold Pl.je;rw [h1,h2];simp)
 have EC:Hid (Pl.scC c=Pl.yB):=hide (by unfold Pl.scC;rw [EO.o];rfl)
 have EF:Hid (Pl.scF c=Pl.aH):=hide (by unfold Pl.scF;rw [EO.o];rfl)
 have H2:=hide h2
 clear h2
 have K0:=hide (ah (ah (kept_alloc w (.cells (cpA c a b e q ca cb ce cq) 36)) (.cells cpZ 36)) (.cells ftZ 49))
 have B0:=((Blk.new w (cpA c a b e q ca cb ce cq) 36).alloc (.cells cpZ 36)).alloc (.cells ftZ 49)
 have B1:=(Blk.new (w.alloc (.cells (cpA c a b e q ca cb ce cq) 36)) cpZ 36).alloc (.cells ftZ 49)
 have B2:=Blk.new ((w.alloc (.cells (cpA c a b e q ca cb ce cq) 36)).alloc (.cells cpZ 36)) ftZ 49
 simp only [World.size_alloc] at B1 B2
 obtain ⟨X,hX⟩:∃X:World,((w.alloc (.cells (cpA c a b e q ca cb ce cq) 36)).alloc (.cells cpZ 36)).alloc (.cells ftZ 49)=X:=⟨_,rfl⟩
 rw [hX] at K0 B0 B1 B2
 have HXS:Hid (X.heap.size=w.heap.size+3):=hide (by rw [←hX];simp)
 have HB0:=hide B0
 have HB1:=hide B1
 have HB2:=hide B2
 have HA:=hide (ha.ai K0.o)
 have HB:=hide (hb.ai K0.o)
 have HE:=hide (he.ai K0.o)
 have HQ:=hide (hq.ai K0.o)
 clear B0 B1 B2 ha hb he hq
 have i0:=HB0.o.cell (i:=0) rfl
 have i1:=HB0.o.cell (i:=1) rfl
 have i2:=HB0.o.cell (i:=2) rfl
 have i3:=HB0.o.cell (i:=3) rfl
 have i4:=HB0.o.cell (i:=4) rfl
 have i5:=HB0.o.cell (i:=5) rfl
 have i6:=HB0.o.cell (i:=6) rfl
 have i7:=HB0.o.cell (i:=7) rfl
 have i8:=HB0.o.cell (i:=8) rfl
 have i9:=HB0.o.cell (i:=9) rfl
 have i10:=HB0.o.cell (i:=10) rfl
 have i11:=HB0.o.cell (i:=11) rfl
 go_enter func19,ntmps19
 go_wp2_with (go_at_call 26;refine (lG _ c a b e q ca cb ce cq HA.o HB.o HE.o HQ.o lx ly lb ll lm).mono ?_;rintro e9 W ⟨rfl,k9⟩;rw [h1];have HK1:=hide (K0.o.trans k9);have HI1:=hide (HB0.o.af k9);have HO1:=hide (HB1.o.af k9);have HO2:=hide (HB2.o.af k9);have hs1:=HO2.o.lt;have HSz:=hide k9.size;have HA1:=hide (HA.o.ai k9);have Qk:=hide (HB.o.ai k9);have HE1:=hide (HE.o.ai k9);have HQ1:=hide (HQ.o.ai k9);clear k9 i0;have i0:=HI1.o.all;have o0:=HO1.o.all;have of0:=HO1.o.fz;have y0:=HO2.o.all;have yf0:=HO2.o.fz;(try unfold cpA at i0);rw [H2.o] at i0)
 have hxs:=HXS.o
 refine bodyPost_ret (v:=.tuple #[.agg (pY (Pl.scC c) none none none none 0 0 0 0),.agg (ftC (Pl.scF c)),.bool (Pl.je c)]) ?_ rfl ⟨none,none,none,none,0,0,0,0,rfl,by rw [EC.o];exact ng _ _,?kw⟩
 case kw=>repeat (first|with_reducible exact HK1.o|refine ag ?_ _ _ _ (.inr (by omega)))
 rw [iy rfl,EC.o,EF.o,EO.o];go_simp;exact ⟨rfl,rfl⟩
theorem sF (w:World) (c:Pl.Cp) (a b e q:Option Addr) (ca cb ce cq:Nat) (ha:aI w a c.r.xs) (hb:aI w b c.r.ys) (he:aI w e c.bx) (hq:aI w q c.bl) (lx:c.r.xs.length≤2000000) (ly:c.r.ys.length≤2000000) (lb:c.bx.length≤2000000) (ll:c.bl.length=5*c.bm) (lm:c.bm≤2000000) (h1:Pl.iP c=true) (h2:c.st=false) (h3:c.ha=true) :
  Calls prog 19 #[.agg (cpA c a b e q ca cb ce cq)] w fun r w'=>∃(a' b' e' q':Option Addr) (ca' cb' ce' cq':Nat),r=.returned (.tuple #[.agg (pY (Pl.scC c) a' b' e' q' ca' cb' ce' cq'),.agg (ftC (Pl.scF c)),.bool (Pl.je c)])∧lQ w' w.heap.size (Pl.scC c) a' b' e' q'∧Kept 0 0 w w':=by
 have EO:Hid (Pl.je c=false):=hide (by unfold Pl.je;rw [h1,h2,h3];simp)
 have EC:Hid (Pl.scC c=Pl.yB):=hide (by unfold Pl.scC;rw [EO.o];rfl)
 have EF:Hid (Pl.scF c=Pl.aH):=hide (by unfold Pl.scF;rw [EO.o];rfl)
 have H2:=hide h2
 clear h2
 have H3:=hide h3
 clear h3
 have K0:=hide (ah (ah (kept_alloc w (.cells (cpA c a b e q ca cb ce cq) 36)) (.cells cpZ 36)) (.cells ftZ 49))
 have B0:=((Blk.new w (cpA c a b e q ca cb ce cq) 36).alloc (.cells cpZ 36)).alloc (.cells ftZ 49)
 have B1:=(Blk.new (w.alloc (.cells (cpA c a b e q ca cb ce cq) 36)) cpZ 36).alloc (.cells ftZ 49)
 have B2:=Blk.new ((w.alloc (.cells (cpA c a b e q ca cb ce cq) 36)).alloc (.cells cpZ 36)) ftZ 49
 simp only [World.size_alloc] at B1 B2
 obtain ⟨X,hX⟩:∃X:World,((w.alloc (.cells (cpA c a b e q ca cb ce cq) 36)).alloc (.cells cpZ 36)).alloc (.cells ftZ 49)=X:=⟨_,rfl⟩
 rw [hX] at K0 B0 B1 B2
 have HXS:Hid (X.heap.size=w.heap.size+3):=hide (by rw [←hX];simp)
 have HB0:=hide B0
 have HB1:=hide B1
 have HB2:=hide B2
 have HA:=hide (ha.ai K0.o)
 have HB:=hide (hb.ai K0.o)
 have HE:=hide (he.ai K0.o)
 have HQ:=hide (hq.ai K0.o)
 clear B0 B1 B2 ha hb he hq
 have i0:=HB0.o.cell (i:=0) rfl
 have i1:=HB0.o.cell (i:=1) rfl
 have i2:=HB0.o.cell (i:=2) rfl
 have i3:=HB0.o.cell (i:=3) rfl
 have i4:=HB0.o.cell (i:=4) rfl
 have i5:=HB0.o.cell (i:=5) rfl
 have i6:=HB0.o.cell (i:=6) rfl
 have i7:=HB0.o.cell (i:=7) rfl
 have i8:=HB0.o.cell (i:=8) rfl
 have i9:=HB0.o.cell (i:=9) rfl
 have i10:=HB0.o.cell (i:=10) rfl
 have i11:=HB0.o.cell (i:=11) rfl
 go_enter func19,ntmps19
 go_wp2_with (go_at_call 26;refine (lG _ c a b e q ca cb ce cq HA.o HB.o HE.o HQ.o lx ly lb ll lm).mono ?_;rintro e9 W ⟨rfl,k9⟩;rw [h1];have HK1:=hide (K0.o.trans k9);have HI1:=hide (HB0.o.af k9);have HO1:=hide (HB1.o.af k9);have HO2:=hide (HB2.o.af k9);have hs1:=HO2.o.lt;have HSz:=hide k9.size;have HA1:=hide (HA.o.ai k9);have Qk:=hide (HB.o.ai k9);have HE1:=hide (HE.o.ai k9);have HQ1:=hide (HQ.o.ai k9);clear k9 i0;have i0:=HI1.o.all;have o0:=HO1.o.all;have of0:=HO1.o.fz;have y0:=HO2.o.all;have yf0:=HO2.o.fz;(try unfold cpA at i0);rw [H2.o] at i0;(try unfold cpA at i0);rw [H3.o] at i0)
 have hxs:=HXS.o
 refine bodyPost_ret (v:=.tuple #[.agg (pY (Pl.scC c) none none none none 0 0 0 0),.agg (ftC (Pl.scF c)),.bool (Pl.je c)]) ?_ rfl ⟨none,none,none,none,0,0,0,0,rfl,by rw [EC.o];exact ng _ _,?kw⟩
 case kw=>repeat (first|with_reducible exact HK1.o|refine ag ?_ _ _ _ (.inr (by omega)))
 rw [iy rfl,EC.o,EF.o,EO.o];go_simp;exact ⟨rfl,rfl⟩
theorem uO (w:World) (c:Pl.Cp) (a b e q:Option Addr) (ca cb ce cq:Nat) (ha:aI w a c.r.xs) (hb:aI w b c.r.ys) (he:aI w e c.bx) (hq:aI w q c.bl) (lx:c.r.xs.length≤2000000) (ly:c.r.ys.length≤2000000) (lb:c.bx.length≤2000000) (ll:c.bl.length=5*c.bm) (lm:c.bm≤2000000) (h1:Pl.iP c=true) (h2:c.st=false) (h3:c.ha=false) :
  Calls prog 19 #[.agg (cpA c a b e q ca cb ce cq)] w fun r w'=>∃(a' b' e' q':Option Addr) (ca' cb' ce' cq':Nat),r=.returned (.tuple #[.agg (pY (Pl.scC c) a' b' e' q' ca' cb' ce' cq'),.agg (ftC (Pl.scF c)),.bool (Pl.je c)])∧lQ w' w.heap.size (Pl.scC c) a' b' e' q'∧Kept 0 0 w w':=by
 have EO:Hid (Pl.je c=true):=hide (by unfold Pl.je;rw [h1,h2,h3];rfl)
 have EC:Hid (Pl.scC c=Pl.aO c):=hide (by unfold Pl.scC;rw [EO.o];rfl)
 have EF:Hid (Pl.scF c=Pl.dA c):=hide (by unfold Pl.scF;rw [EO.o];rfl)
 have G:=Pl.GM.of h1 ll c.st
 have h4:=G.g.d4
 have h5:=G.g.a4
 have hbx:=G.bx
 have HST:∀(w9:World) (ra:aI w9 a c.r.xs) (rb:aI w9 b c.r.ys) (re:aI w9 e c.bx) (rq:aI w9 q c.bl),Calls prog 43 #[.agg (cpA c a b e q ca cb ce cq)] w9 fun r w'=>∃gd cd ga cA g1 c1 g2 c2 mid:Nat,r=.returned (.tuple #[.agg (jI (Pl.aO c) gd cd ga cA g1 c1 g2 c2),.agg (ftC (Pl.dA c))])∧CO w' w9.heap.size mid (Pl.aO c) gd ga g1 g2 c2∧Kept 0 0 w9 w':=by
  intro w9 ra rb re rq
  have z:=Vx w9 c a b e q ca cb ce cq ra rb re rq h1 ll
  try unfold cpA
  rw [h4,h5,hbx]
  exact z
 have LN:Hid ((Pl.aO c).r.xs.length=4∧(Pl.aO c).r.ys.length=4∧(Pl.aO c).bx.length=512):=hide (Pl.G7 h1 ll)
 try unfold cpA at HST
 rw [h2,h3] at HST
 have H2:=hide h2
 have H3:=hide h3
 clear h2 h3 G h4 h5 hbx
 have K0:=hide (ah (ah (kept_alloc w (.cells (cpA c a b e q ca cb ce cq) 36)) (.cells cpZ 36)) (.cells ftZ 49))
 have B0:=((Blk.new w (cpA c a b e q ca cb ce cq) 36).alloc (.cells cpZ 36)).alloc (.cells ftZ 49)
 have B1:=(Blk.new (w.alloc (.cells (cpA c a b e q ca cb ce cq) 36)) cpZ 36).alloc (.cells ftZ 49)
 have B2:=Blk.new ((w.alloc (.cells (cpA c a b e q ca cb ce cq) 36)).alloc (.cells cpZ 36)) ftZ 49
 simp only [World.size_alloc] at B1 B2
 obtain ⟨X,hX⟩:∃X:World,((w.alloc (.cells (cpA c a b e q ca cb ce cq) 36)).alloc (.cells cpZ 36)).alloc (.cells ftZ 49)=X:=⟨_,rfl⟩
 rw [hX] at K0 B0 B1 B2
 have HXS:Hid (X.heap.size=w.heap.size+3):=hide (by rw [←hX];simp)
 have HB0:=hide B0
 have HB1:=hide B1
 have HB2:=hide B2
 have HA:=hide (ha.ai K0.o)
 have HB:=hide (hb.ai K0.o)
 have HE:=hide (he.ai K0.o)
 have HQ:=hide (hq.ai K0.o)
 clear B0 B1 B2 ha hb he hq
 have i0:=HB0.o.cell (i:=0) rfl
 have i1:=HB0.o.cell (i:=1) rfl
 have i2:=HB0.o.cell (i:=2) rfl
 have i3:=HB0.o.cell (i:=3) rfl
 have i4:=HB0.o.cell (i:=4) rfl
 have i5:=HB0.o.cell (i:=5) rfl
 have i6:=HB0.o.cell (i:=6) rfl
 have i7:=HB0.o.cell (i:=7) rfl
 have i8:=HB0.o.cell (i:=8) rfl
 have i9:=HB0.o.cell (i:=9) rfl
 have i10:=HB0.o.cell (i:=10) rfl
 have i11:=HB0.o.cell (i:=11) rfl
 go_enter func19,ntmps19
 go_wp2_with (first|(go_at_call 43;have z9:=HK1;refine (HST _ HA1.o Qk.o HE1.o HQ1.o).mono ?_;unfold jI ftC;rintro e9 W2 ⟨gd,cd,ga,cA,g1,c1,g2,c2,mid,rfl,hc9,k9⟩;have HC:=hide hc9;have HK2:=hide (HK1.o.trans k9);have HP1:=hide (HO1.o.af k9);have HP2:=hide (HO2.o.af k9);have HSz2:=hide k9.size;have KZ:=ah (kept_alloc W2 (.cells #[.slice (some ⟨gd,0,none⟩) 4 cd,.slice (some ⟨ga,0,none⟩) 4 cA,iv (Pl.aO c).r.o,iv (Pl.aO c).r.p,iv (Pl.aO c).r.f,iv (Pl.aO c).r.m,.bool (Pl.aO c).r.s,.bool (Pl.aO c).r.t,.slice (some ⟨g1,0,none⟩) 512 c1,.slice (some ⟨g2,0,none⟩) (Pl.aO c).bm c2,.bool (Pl.aO c).st,.bool (Pl.aO c).ha] 36)) (.cells #[iv (Pl.dA c).v,iv (Pl.dA c).pc,iv (Pl.dA c).ad,iv (Pl.dA c).wo,.bool (Pl.dA c).wr] 49);have BM:=(Blk.new W2 #[.slice (some ⟨gd,0,none⟩) 4 cd,.slice (some ⟨ga,0,none⟩) 4 cA,iv (Pl.aO c).r.o,iv (Pl.aO c).r.p,iv (Pl.aO c).r.f,iv (Pl.aO c).r.m,.bool (Pl.aO c).r.s,.bool (Pl.aO c).r.t,.slice (some ⟨g1,0,none⟩) 512 c1,.slice (some ⟨g2,0,none⟩) (Pl.aO c).bm c2,.bool (Pl.aO c).st,.bool (Pl.aO c).ha] 36).alloc (.cells #[iv (Pl.dA c).v,iv (Pl.dA c).pc,iv (Pl.dA c).ad,iv (Pl.dA c).wo,.bool (Pl.dA c).wr] 49);have BN:=Blk.new (W2.alloc (.cells #[.slice (some ⟨gd,0,none⟩) 4 cd,.slice (some ⟨ga,0,none⟩) 4 cA,iv (Pl.aO c).r.o,iv (Pl.aO c).r.p,iv (Pl.aO c).r.f,iv (Pl.aO c).r.m,.bool (Pl.aO c).r.s,.bool (Pl.aO c).r.t,.slice (some ⟨g1,0,none⟩) 512 c1,.slice (some ⟨g2,0,none⟩) (Pl.aO c).bm c2,.bool (Pl.aO c).st,.bool (Pl.aO c).ha] 36)) #[iv (Pl.dA c).v,iv (Pl.dA c).pc,iv (Pl.dA c).ad,iv (Pl.dA c).wo,.bool (Pl.dA c).wr] 49;simp only [World.size_alloc] at BN;obtain ⟨Z,hZ⟩:∃Z:World,(W2.alloc (.cells #[.slice (some ⟨gd,0,none⟩) 4 cd,.slice (some ⟨ga,0,none⟩) 4 cA,iv (Pl.aO c).r.o,iv (Pl.aO c).r.p,iv (Pl.aO c).r.f,iv (Pl.aO c).r.m,.bool (Pl.aO c).r.s,.bool (Pl.aO c).r.t,.slice (some ⟨g1,0,none⟩) 512 c1,.slice (some ⟨g2,0,none⟩) (Pl.aO c).bm c2,.bool (Pl.aO c).st,.bool (Pl.aO c).ha] 36)).alloc (.cells #[iv (Pl.dA c).v,iv (Pl.dA c).pc,iv (Pl.dA c).ad,iv (Pl.dA c).wo,.bool (Pl.dA c).wr] 49)=Z:=⟨_,rfl⟩;rw [hZ] at KZ BM BN;have HM:=hide BM;have HN:=hide BN;have Wv:=hide (HP1.o.af KZ);have Un:=hide (HP2.o.af KZ);have HCZ:=hide (hc9.any KZ);have HKZ:=hide (HK2.o.trans KZ);have HKS:=hide KZ.size;have hsz2:=HP2.o.lt;clear hc9 k9 KZ BM BN i0;clear o0 of0 y0 yf0;have m0:=HM.o.all;have n0:=HN.o.all;have o0:=Wv.o.all;have of0:=Wv.o.fz;have y0:=Un.o.all;have yf0:=Un.o.fz;have yf4:=Un.o.frozen 4)|(go_at_call 26;refine (lG _ c a b e q ca cb ce cq HA.o HB.o HE.o HQ.o lx ly lb ll lm).mono ?_;rintro e9 W ⟨rfl,k9⟩;rw [h1];have HK1:=hide (K0.o.trans k9);have HI1:=hide (HB0.o.af k9);have HO1:=hide (HB1.o.af k9);have HO2:=hide (HB2.o.af k9);have hs1:=HO2.o.lt;have HSz:=hide k9.size;have HA1:=hide (HA.o.ai k9);have Qk:=hide (HB.o.ai k9);have HE1:=hide (HE.o.ai k9);have HQ1:=hide (HQ.o.ai k9);clear k9 i0;have i0:=HI1.o.all;have o0:=HO1.o.all;have of0:=HO1.o.fz;have y0:=HO2.o.all;have yf0:=HO2.o.fz;(try unfold cpA at i0);rw [H2.o] at i0;(try unfold cpA at i0);rw [H3.o] at i0))
 go_region
 go_wp2_with fail
 have hxs:=HXS.o
 have hz1:=HSz.o
 have hz2:=HSz2.o
 refine bodyPost_ret (v:=.tuple #[.agg (pY (Pl.scC c) (some ⟨gd,0,none⟩) (some ⟨ga,0,none⟩) (some ⟨g1,0,none⟩) (some ⟨g2,0,none⟩) cd cA c1 c2),.agg (ftC (Pl.scF c)),.bool (Pl.je c)]) ?_ rfl ⟨some ⟨gd,0,none⟩,some ⟨ga,0,none⟩,some ⟨g1,0,none⟩,some ⟨g2,0,none⟩,cd,cA,c1,c2,rfl,?co,?kw⟩
 case co=>
  rw [EC.o]
  refine (HCZ.o.uZ (lo:=w.heap.size) (x:=w.heap.size+1) (y:=w.heap.size+3) (by omega) (by omega) ?_).VX
  refine ae ?_
  repeat (first|with_reducible exact Kept.refl _ _ _|refine ag ?_ _ _ _ (.inl (by omega)))
 case kw=>
  refine ae ?_
  repeat (first|with_reducible exact HKZ.o|refine ag ?_ _ _ _ (.inr (by omega)))
 rw [iy rfl,EC.o,EF.o,EO.o];unfold pY;rw [LN.o.1,LN.o.2.1,LN.o.2.2];go_simp;first|rfl|exact ⟨rfl,rfl⟩
theorem yU (w:World) (c:Pl.Cp) (a b e q:Option Addr) (ca cb ce cq:Nat) (ha:aI w a c.r.xs) (hb:aI w b c.r.ys) (he:aI w e c.bx) (hq:aI w q c.bl) (lx:c.r.xs.length≤2000000) (ly:c.r.ys.length≤2000000) (lb:c.bx.length≤2000000) (ll:c.bl.length=5*c.bm) (lm:c.bm≤2000000) :
  Calls prog 19 #[.agg (cpA c a b e q ca cb ce cq)] w fun r w'=>∃(a' b' e' q':Option Addr) (ca' cb' ce' cq':Nat),r=.returned (.tuple #[.agg (pY (Pl.scC c) a' b' e' q' ca' cb' ce' cq'),.agg (ftC (Pl.scF c)),.bool (Pl.je c)])∧lQ w' w.heap.size (Pl.scC c) a' b' e' q'∧Kept 0 0 w w':=by
 cases h1:Pl.iP c
 ·exact uk w c a b e q ca cb ce cq ha hb he hq lx ly lb ll lm h1
 ·rcases Bool.eq_false_or_eq_true c.st with h2|h2
  ·exact sD w c a b e q ca cb ce cq ha hb he hq lx ly lb ll lm h1 h2
  ·rcases Bool.eq_false_or_eq_true c.ha with h3|h3
   ·exact sF w c a b e q ca cb ce cq ha hb he hq lx ly lb ll lm h1 h2 h3
   ·exact uO w c a b e q ca cb ce cq ha hb he hq lx ly lb ll lm h1 h2 h3
end Go.Proofs.YtkkmnnhaailkcaaGreatDoor
