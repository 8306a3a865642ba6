/- Part 12 of what the last text leans on. -/
import Derived.Test.YtkkmnnhaailkcaaGreatDoorJB11
import Derived.Test.YtkkmnnhaailkcaaGreatDoorJB2
import Derived.Test.YtkkmnnhaailkcaaGreatDoorJB1
import Derived.Test.YtkkmnnhaailkcaaGreatDoorJB3
set_option maxRecDepth 100000
set_option maxHeartbeats 16000000
namespace Go.Proofs.YtkkmnnhaailkcaaGreatDoor
open Go.RowKit Go.Proofs.Tryz
set_option linter.unusedVariables false
theorem Jk (w:World) (c:Pl.Cp) (a b e q:Option Addr) (ca cb ce cq:Nat) (ha:aJ w a c.r.xs) (hb:aJ w b c.r.ys) (he:aJ w e c.bx) (hq:aJ w q c.bl) (hok:Pl.ik c=true) (hl:c.bl.length=5*c.bm) (hf:(Pl.Mc.ofC c).fetch.fine=true) (hp:Pl.iW (Pl.Mc.ofC c).az=false) (hfs:(((Pl.Mc.ofC c).fetch.aK (((Pl.Mc.ofC c).r.p+2*(Pl.Mc.ofC c).bH)%65536)).doI (Pl.Mc.ofC c).az (Pl.Mc.ofC c).r.p).fine=true) :
  Calls prog 43 #[.agg #[.slice a 4 ca,.slice b 4 cb,iv c.r.o,iv c.r.p,iv c.r.f,iv c.r.m,.bool c.r.s,.bool c.r.t,.slice e 512 ce,.slice q c.bm cq,.bool c.st,.bool c.ha]] w fun r w'=>∃gd cd ga cA g1 c1 g2 c2 mid:Nat,r=.returned (.tuple #[.agg (jE (Pl.au c) gd cd ga cA g1 c1 g2 c2),.agg (ftC (Pl.dh c))])∧CO w' w.heap.size mid (Pl.au c) gd ga g1 g2 c2∧Kept 0 0 w w':=by
 have HG:=hide (Pl.GM.of hok hl c.st)
 have h4:=HG.o.g.d4
 have h5:=HG.o.g.a4
 have hbx:=HG.o.bx
 have hbm:=HG.o.bm
 have K0:=hide (ah (ah (kept_alloc w (.cells #[.slice a 4 ca,.slice b 4 cb,iv c.r.o,iv c.r.p,iv c.r.f,iv c.r.m,.bool c.r.s,.bool c.r.t,.slice e 512 ce,.slice q c.bm cq,.bool c.st,.bool c.ha] 36)) (.cells cpZ 36)) (.cells ftZ 49))
 have B0:=((Blk.new w #[.slice a 4 ca,.slice b 4 cb,iv c.r.o,iv c.r.p,iv c.r.f,iv c.r.m,.bool c.r.s,.bool c.r.t,.slice e 512 ce,.slice q c.bm cq,.bool c.st,.bool c.ha] 36).alloc (.cells cpZ 36)).alloc (.cells ftZ 49)
 have B1:=(Blk.new (w.alloc (.cells #[.slice a 4 ca,.slice b 4 cb,iv c.r.o,iv c.r.p,iv c.r.f,iv c.r.m,.bool c.r.s,.bool c.r.t,.slice e 512 ce,.slice q c.bm cq,.bool c.st,.bool c.ha] 36)) cpZ 36).alloc (.cells ftZ 49)
 have B2:=Blk.new ((w.alloc (.cells #[.slice a 4 ca,.slice b 4 cb,iv c.r.o,iv c.r.p,iv c.r.f,iv c.r.m,.bool c.r.s,.bool c.r.t,.slice e 512 ce,.slice q c.bm cq,.bool c.st,.bool c.ha] 36)).alloc (.cells cpZ 36)) ftZ 49
 simp only [World.size_alloc] at B1 B2
 obtain ⟨X,hX⟩:∃X:World,((w.alloc (.cells #[.slice a 4 ca,.slice b 4 cb,iv c.r.o,iv c.r.p,iv c.r.f,iv c.r.m,.bool c.r.s,.bool c.r.t,.slice e 512 ce,.slice q c.bm cq,.bool c.st,.bool c.ha] 36)).alloc (.cells cpZ 36)).alloc (.cells ftZ 49)=X:=⟨_,rfl⟩
 rw [hX] at K0 B0 B1 B2
 have hxs:X.heap.size=w.heap.size+3:=by rw [←hX];simp
 have HXS:=hide hxs
 have HB0:=hide B0
 have HB1:=hide B1
 have HB2:=hide B2
 have HA:=hide (ha.ai K0.o)
 have HB:=hide (hb.ai K0.o)
 have HE:=hide (he.ai K0.o)
 have HQ:=hide (hq.ai K0.o)
 have HAw:=hide ha
 have HBw:=hide hb
 clear B0 B1 B2 ha hb he hq hxs
 have i0:=HB0.o.all
 obtain ⟨hin,hfn⟩:=Pl.ng hf
 have hpp0:0≤(Pl.Mc.ofC c).r.p:=HG.o.p0
 have hpp1:(Pl.Mc.ofC c).r.p≤65535:=HG.o.p1
 have HGd:Hid (Pl.GM ((Pl.Mc.ofC c).fetch.aK (((Pl.Mc.ofC c).r.p+2*(Pl.Mc.ofC c).bH)%65536))):=hide ((Pl.GM.fetch HG.o).aK (by omega) (by omega))
 have hfd:((Pl.Mc.ofC c).fetch.aK (((Pl.Mc.ofC c).r.p+2*(Pl.Mc.ofC c).bH)%65536)).fine=true:=hf
 have HGs:=hide (HGd.o.doI hin (Pl.Mc.ofC c).r.p)
 have HDO:=fun w9 mid hi p g3 h9=>mDo w9 X.heap.size mid hi p g3 ((Pl.Mc.ofC c).fetch.aK (((Pl.Mc.ofC c).r.p+2*(Pl.Mc.ofC c).bH)%65536)) (Pl.Mc.ofC c).az (Pl.Mc.ofC c).r.p h9 HGd.o hin hpp0 hpp1 hfd
 have ES:Pl.stepM c=((Pl.Mc.ofC c).fetch.aK (((Pl.Mc.ofC c).r.p+2*(Pl.Mc.ofC c).bH)%65536)).doI (Pl.Mc.ofC c).az (Pl.Mc.ofC c).r.p:=by
  have e1:(Pl.Mc.ofC c).s1=(Pl.Mc.ofC c).fetch:=by unfold Pl.Mc.s1;rw [hf,hp];rfl
  unfold Pl.stepM Pl.Mc.s2;rw [e1,hf];rfl
 obtain ⟨sd,hsd⟩:∃s,((Pl.Mc.ofC c).fetch.aK (((Pl.Mc.ofC c).r.p+2*(Pl.Mc.ofC c).bH)%65536)).doI (Pl.Mc.ofC c).az (Pl.Mc.ofC c).r.p=s:=⟨_,rfl⟩
 rw [hsd] at HGs hfs ES
 simp only [hsd] at HDO
 clear hsd
 have EC:Hid (Pl.au c=sd.cpu false):=hide (by unfold Pl.au;rw [ES,hfs];rfl)
 have EF:Hid (Pl.dh c=Pl.aI):=hide (by unfold Pl.dh;rw [ES,hfs];rfl)
 have HBL:Hid (w.heap.size<X.heap.size):=hide (by have:=HXS.o;omega)
 have UW:Hid (w.heap.size+1<X.heap.size):=hide (by have:=HXS.o;omega)
 have UV:Hid (w.heap.size+1+1<X.heap.size):=hide (by have:=HXS.o;omega)
 have HPV:Hid (Pl.iW ⟨(Pl.Mc.ofC c).az.op,(Pl.Mc.ofC c).az.z,(Pl.Mc.ofC c).az.r,(Pl.Mc.ofC c).az.m,(Pl.Mc.ofC c).az.k,(Pl.Mc.ofC c).az.e,(Pl.Mc.ofC c).az.s⟩=false):=hide hp
 have hmk:=mg ((Pl.Mc.ofC c).r.p+2*(Pl.Mc.ofC c).bH)
 have hn0:1≤(Pl.Mc.ofC c).bH:=by omega
 have hn1:(Pl.Mc.ofC c).bH≤2:=by omega
 clear ES hp hfn hin hfd
 go_enter func43,ntmps43
 go_wp2_with (first|(go_at_call 68;have z9:=HM6;refine st (bT _ X.heap.size mid W1.heap.size p g6 _ HM6.o) ?_;rw [hfs])|(go_at_call 70;have z9:=HMd;refine (HDO _ mid W1.heap.size p g3 HMd.o).mono ?_;rintro e9 W6 ⟨rfl,g6,hm9,hb9⟩;have HM6:=hide hm9;have HL6:=hide (HLd.o.trans (fJ hb9 HMd.o.qO HLd.o.size));have HK6:=hide (dJ K0.o HL6.o K0.o.size);have HZ6:=hide (HB0.o.below HL6.o HBL.o);clear hb9 x0 t3 t6 t11 f3 f11 i0;have i0:=HZ6.o.all;obtain ⟨gd6,cd6,ga6,ca6,g16,c16,c26,hB9,hO9⟩:=hm9;have HB6:=hide hB9;have HO6:=hide hO9;have hpw6:=hB9.lt;clear hB9 hO9)|(go_at_call 68;have z9:=HMd;refine st (bT _ X.heap.size mid W1.heap.size p g3 _ HM5.o) ?_;rw [hf])|(go_at_call 68;have z9:=HBm;refine st (bT _ X.heap.size mid W1.heap.size p g3 _ HMZ.o) ?_;rw [hf])|(go_at_call 66;refine (tC _ c a b e q ca cb ce cq HA.o HB.o HE.o HQ.o h4 h5 hbx hl hbm).mono ?_;rintro e9 W1 ⟨mid,p,g2,rfl,hm9,hp9,k9⟩;have HM1:=hide hm9;have HK1:=hide k9;have HP1:=hide hp9;have HL1:=hide (dD k9 (Nat.le_refl X.heap.size));obtain ⟨_,_,_,_,_,_,_,hB9,_⟩:=hm9;have hpw1:=hB9.lt;have t3:=(MB.cells hB9).2.2.2.1;clear hp9 k9 hB9)|(go_at_call 67;refine (tJ _ X.heap.size mid W1.heap.size p g2 (Pl.Mc.ofC c) HM1.o HG.o).mono ?_;rintro e9 W2 ⟨rfl,g3,hm9,hb9⟩;have HM2:=hide hm9;have HS2:=hide hb9;have HL2:=hide (HL1.o.trans (fJ hb9 HM1.o.qO HL1.o.size));clear hm9 hb9 t3;unfold mi;have KZ:=kept_alloc W2 (.cells #[iv (Pl.Mc.ofC c).az.op,iv (Pl.Mc.ofC c).az.z,iv (Pl.Mc.ofC c).az.r,iv (Pl.Mc.ofC c).az.m,iv (Pl.Mc.ofC c).az.k,iv (Pl.Mc.ofC c).az.e,iv (Pl.Mc.ofC c).az.s] 109);have BZ:=Blk.new W2 #[iv (Pl.Mc.ofC c).az.op,iv (Pl.Mc.ofC c).az.z,iv (Pl.Mc.ofC c).az.r,iv (Pl.Mc.ofC c).az.m,iv (Pl.Mc.ofC c).az.k,iv (Pl.Mc.ofC c).az.e,iv (Pl.Mc.ofC c).az.s] 109;obtain ⟨Z,hZ⟩:∃Z:World,W2.alloc (.cells #[iv (Pl.Mc.ofC c).az.op,iv (Pl.Mc.ofC c).az.z,iv (Pl.Mc.ofC c).az.r,iv (Pl.Mc.ofC c).az.m,iv (Pl.Mc.ofC c).az.k,iv (Pl.Mc.ofC c).az.e,iv (Pl.Mc.ofC c).az.s] 109)=Z:=⟨_,rfl⟩;rw [hZ] at KZ BZ;have HBZ:=hide BZ;have HMZ:=hide (HM2.o.any KZ);have HLZ:=hide (HL2.o.trans (dD KZ (Nat.le_trans (Nat.le_refl X.heap.size) HL2.o.size)));have HKZ:=hide (dJ K0.o HLZ.o K0.o.size);clear KZ BZ;have HZB:=hide (HB0.o.below HLZ.o HBL.o);clear i0;have i0:=HZB.o.all;have hzm:=HMZ.o;obtain ⟨gd,cd,ga,cA,g1,c1,c2,hB9,hO9⟩:=hzm;have HBm:=hide hB9;have HOm:=hide hO9;have hpz:=hB9.lt;clear hB9 hO9;have x0:=HBZ.o.all;have hzx:=HBZ.o.lt)|(go_at_call 69;have z9:=HBm;refine (pq _ (Pl.Mc.ofC c).az.op (Pl.Mc.ofC c).az.z (Pl.Mc.ofC c).az.r (Pl.Mc.ofC c).az.m (Pl.Mc.ofC c).az.k (Pl.Mc.ofC c).az.e (Pl.Mc.ofC c).az.s).mono ?_;rintro e9 W5 ⟨rfl,k9⟩;rw [HPV.o];have HM5:=hide (HMZ.o.any k9);have HB5:=hide (HBm.o.any k9);have HO5:=hide (HOm.o.any k9);have HZ5:=hide (HZB.o.af k9);have HL5:=hide (HLZ.o.trans (dD k9 (Nat.le_trans (Nat.le_refl X.heap.size) HLZ.o.size)));have HK5:=hide (HKZ.o.trans k9);have HX5:=hide (HBZ.o.af k9);clear k9 x0 i0;have i0:=HZ5.o.all;have x0:=HX5.o.all;obtain ⟨t0,t1,t2,t3,t4,t5,t6,t7,t8,t9,t10,t11,_⟩:=HB5.o.cells;have f11:=HB5.o.frozen 11;have f3:=HB5.o.frozen 3;have hpw5:=HB5.o.lt;clear t0 t1 t2 t4 t5 t7 t8 t9 t10;have HMd:Hid (MAt (W5.setCell ⟨p,3,none⟩ (iv (((Pl.Mc.ofC c).r.p+2*(Pl.Mc.ofC c).bH)%65536))) X.heap.size mid W1.heap.size p g3 ((Pl.Mc.ofC c).fetch.aK (((Pl.Mc.ofC c).r.p+2*(Pl.Mc.ofC c).bH)%65536))):=hide (HM5.o.cP (((Pl.Mc.ofC c).r.p+2*(Pl.Mc.ofC c).bH)%65536));have HLd:=hide (HL5.o.setCell (p:=⟨p,3,none⟩) HP1.o (iv (((Pl.Mc.ofC c).r.p+2*(Pl.Mc.ofC c).bH)%65536)));have hpx:p<W2.heap.size:=HM2.o.lo.2.2.2.2.1)|(go_at_call 71;refine (V5 _ X.heap.size mid W1.heap.size p g6 sd HM6.o HGs.o).mono ?_;unfold jE;rintro e9 W4 ⟨gd4,cd4,ga4,ca4,g14,c14,g24,c24,mid4,rfl,hc9,k9⟩;have HC:=hide hc9;have HK4:=hide (HK6.o.trans k9);have aN:=hide ((HB1.o.below HL6.o UW.o).af k9);have dI:=hide ((HB2.o.below HL6.o UV.o).af k9);have hs4:=dI.o.lt;clear hc9 k9;have o0:=aN.o.cell (i:=0) rfl;have of0:=aN.o.frozen 0;have o1:=aN.o.cell (i:=1) rfl;have of1:=aN.o.frozen 1;have o2:=aN.o.cell (i:=2) rfl;have of2:=aN.o.frozen 2;have o3:=aN.o.cell (i:=3) rfl;have of3:=aN.o.frozen 3;have o4:=aN.o.cell (i:=4) rfl;have of4:=aN.o.frozen 4;have o5:=aN.o.cell (i:=5) rfl;have of5:=aN.o.frozen 5;have o6:=aN.o.cell (i:=6) rfl;have of6:=aN.o.frozen 6;have o7:=aN.o.cell (i:=7) rfl;have of7:=aN.o.frozen 7;have o8:=aN.o.cell (i:=8) rfl;have of8:=aN.o.frozen 8;have o9:=aN.o.cell (i:=9) rfl;have of9:=aN.o.frozen 9;have o10:=aN.o.cell (i:=10) rfl;have of10:=aN.o.frozen 10;have o11:=aN.o.cell (i:=11) rfl;have of11:=aN.o.frozen 11;have y0:=dI.o.cell (i:=0) rfl;have yf0:=dI.o.frozen 0;have y1:=dI.o.cell (i:=1) rfl;have yf1:=dI.o.frozen 1;have y2:=dI.o.cell (i:=2) rfl;have yf2:=dI.o.frozen 2;have y3:=dI.o.cell (i:=3) rfl;have yf3:=dI.o.frozen 3;have y4:=dI.o.cell (i:=4) rfl;have yf4:=dI.o.frozen 4))
 have hxs:=HXS.o
 have hl6:=HL6.o.size
 refine bodyPost_ret (v:=.tuple #[.agg (jE (Pl.au c) gd4 cd4 ga4 ca4 g14 c14 g24 c24),.agg (ftC (Pl.dh c))]) ?_ rfl ⟨gd4,cd4,ga4,ca4,g14,c14,g24,c24,mid4,rfl,?co,?kw⟩
 case co=>
  rw [EC.o]
  refine HC.o.xm (x:=w.heap.size+1) (y:=w.heap.size+3) (by omega) (by omega) ?_
  repeat (first|with_reducible exact Kept.refl _ _ _|refine ag ?_ _ _ _ (.inl (by omega)))
 case kw=>repeat (first|with_reducible exact HK4.o|refine ag ?_ _ _ _ (.inr (by omega)))
 rw [iD rfl,EC.o,EF.o];go_simp;exact ⟨rfl,rfl⟩
theorem Fg (w:World) (c:Pl.Cp) (a b e q:Option Addr) (ca cb ce cq:Nat) (ha:aJ w a c.r.xs) (hb:aJ w b c.r.ys) (he:aJ w e c.bx) (hq:aJ w q c.bl) (hok:Pl.ik c=true) (hl:c.bl.length=5*c.bm) (hf:(Pl.Mc.ofC c).fetch.fine=true) (hp:Pl.iW (Pl.Mc.ofC c).az=false) (hfs:(((Pl.Mc.ofC c).fetch.aK (((Pl.Mc.ofC c).r.p+2*(Pl.Mc.ofC c).bH)%65536)).doI (Pl.Mc.ofC c).az (Pl.Mc.ofC c).r.p).fine=false) :
  Calls prog 43 #[.agg #[.slice a 4 ca,.slice b 4 cb,iv c.r.o,iv c.r.p,iv c.r.f,iv c.r.m,.bool c.r.s,.bool c.r.t,.slice e 512 ce,.slice q c.bm cq,.bool c.st,.bool c.ha]] w fun r w'=>∃gd cd ga cA g1 c1 g2 c2 mid:Nat,r=.returned (.tuple #[.agg (jE (Pl.au c) gd cd ga cA g1 c1 g2 c2),.agg (ftC (Pl.dh c))])∧CO w' w.heap.size mid (Pl.au c) gd ga g1 g2 c2∧Kept 0 0 w w':=by
 have HG:=hide (Pl.GM.of hok hl c.st)
 have h4:=HG.o.g.d4
 have h5:=HG.o.g.a4
 have hbx:=HG.o.bx
 have hbm:=HG.o.bm
 have K0:=hide (ah (ah (kept_alloc w (.cells #[.slice a 4 ca,.slice b 4 cb,iv c.r.o,iv c.r.p,iv c.r.f,iv c.r.m,.bool c.r.s,.bool c.r.t,.slice e 512 ce,.slice q c.bm cq,.bool c.st,.bool c.ha] 36)) (.cells cpZ 36)) (.cells ftZ 49))
 have B0:=((Blk.new w #[.slice a 4 ca,.slice b 4 cb,iv c.r.o,iv c.r.p,iv c.r.f,iv c.r.m,.bool c.r.s,.bool c.r.t,.slice e 512 ce,.slice q c.bm cq,.bool c.st,.bool c.ha] 36).alloc (.cells cpZ 36)).alloc (.cells ftZ 49)
 have B1:=(Blk.new (w.alloc (.cells #[.slice a 4 ca,.slice b 4 cb,iv c.r.o,iv c.r.p,iv c.r.f,iv c.r.m,.bool c.r.s,.bool c.r.t,.slice e 512 ce,.slice q c.bm cq,.bool c.st,.bool c.ha] 36)) cpZ 36).alloc (.cells ftZ 49)
 have B2:=Blk.new ((w.alloc (.cells #[.slice a 4 ca,.slice b 4 cb,iv c.r.o,iv c.r.p,iv c.r.f,iv c.r.m,.bool c.r.s,.bool c.r.t,.slice e 512 ce,.slice q c.bm cq,.bool c.st,.bool c.ha] 36)).alloc (.cells cpZ 36)) ftZ 49
 simp only [World.size_alloc] at B1 B2
 obtain ⟨X,hX⟩:∃X:World,((w.alloc (.cells #[.slice a 4 ca,.slice b 4 cb,iv c.r.o,iv c.r.p,iv c.r.f,iv c.r.m,.bool c.r.s,.bool c.r.t,.slice e 512 ce,.slice q c.bm cq,.bool c.st,.bool c.ha] 36)).alloc (.cells cpZ 36)).alloc (.cells ftZ 49)=X:=⟨_,rfl⟩
 rw [hX] at K0 B0 B1 B2
 have hxs:X.heap.size=w.heap.size+3:=by rw [←hX];simp
 have HXS:=hide hxs
 have HB0:=hide B0
 have HB1:=hide B1
 have HB2:=hide B2
 have HA:=hide (ha.ai K0.o)
 have HB:=hide (hb.ai K0.o)
 have HE:=hide (he.ai K0.o)
 have HQ:=hide (hq.ai K0.o)
 have HAw:=hide ha
 have HBw:=hide hb
 clear B0 B1 B2 ha hb he hq hxs
 have i0:=HB0.o.all
 obtain ⟨hin,hfn⟩:=Pl.ng hf
 have hpp0:0≤(Pl.Mc.ofC c).r.p:=HG.o.p0
 have hpp1:(Pl.Mc.ofC c).r.p≤65535:=HG.o.p1
 have HGd:Hid (Pl.GM ((Pl.Mc.ofC c).fetch.aK (((Pl.Mc.ofC c).r.p+2*(Pl.Mc.ofC c).bH)%65536))):=hide ((Pl.GM.fetch HG.o).aK (by omega) (by omega))
 have hfd:((Pl.Mc.ofC c).fetch.aK (((Pl.Mc.ofC c).r.p+2*(Pl.Mc.ofC c).bH)%65536)).fine=true:=hf
 have HGs:=hide (HGd.o.doI hin (Pl.Mc.ofC c).r.p)
 have HDO:=fun w9 mid hi p g3 h9=>mDo w9 X.heap.size mid hi p g3 ((Pl.Mc.ofC c).fetch.aK (((Pl.Mc.ofC c).r.p+2*(Pl.Mc.ofC c).bH)%65536)) (Pl.Mc.ofC c).az (Pl.Mc.ofC c).r.p h9 HGd.o hin hpp0 hpp1 hfd
 have ES:Pl.stepM c=((Pl.Mc.ofC c).fetch.aK (((Pl.Mc.ofC c).r.p+2*(Pl.Mc.ofC c).bH)%65536)).doI (Pl.Mc.ofC c).az (Pl.Mc.ofC c).r.p:=by
  have e1:(Pl.Mc.ofC c).s1=(Pl.Mc.ofC c).fetch:=by unfold Pl.Mc.s1;rw [hf,hp];rfl
  unfold Pl.stepM Pl.Mc.s2;rw [e1,hf];rfl
 obtain ⟨sd,hsd⟩:∃s,((Pl.Mc.ofC c).fetch.aK (((Pl.Mc.ofC c).r.p+2*(Pl.Mc.ofC c).bH)%65536)).doI (Pl.Mc.ofC c).az (Pl.Mc.ofC c).r.p=s:=⟨_,rfl⟩
 rw [hsd] at HGs hfs ES
 simp only [hsd] at HDO
 clear hsd
 have EC:Hid (Pl.au c=Pl.Mc.cpu {(sd.dB c.r) with st:=c.st} false):=hide (by unfold Pl.au;rw [ES,hfs];rfl)
 have EF:Hid (Pl.dh c=sd.f):=hide (by unfold Pl.dh;rw [ES,hfs];rfl)
 have HBL:Hid (w.heap.size<X.heap.size):=hide (by have:=HXS.o;omega)
 have HPV:Hid (Pl.iW ⟨(Pl.Mc.ofC c).az.op,(Pl.Mc.ofC c).az.z,(Pl.Mc.ofC c).az.r,(Pl.Mc.ofC c).az.m,(Pl.Mc.ofC c).az.k,(Pl.Mc.ofC c).az.e,(Pl.Mc.ofC c).az.s⟩=false):=hide hp
 have hmk:=mg ((Pl.Mc.ofC c).r.p+2*(Pl.Mc.ofC c).bH)
 have hn0:1≤(Pl.Mc.ofC c).bH:=by omega
 have hn1:(Pl.Mc.ofC c).bH≤2:=by omega
 clear ES hp hfn hin hfd
 go_enter func43,ntmps43
 go_wp2_with (first|(go_at_call 68;have z9:=HM6;refine st (bT _ X.heap.size mid W1.heap.size p g6 _ HM6.o) ?_;rw [hfs])|(go_at_call 70;have z9:=HMd;refine (HDO _ mid W1.heap.size p g3 HMd.o).mono ?_;rintro e9 W6 ⟨rfl,g6,hm9,hb9⟩;have HM6:=hide hm9;have HL6:=hide (HLd.o.trans (fJ hb9 HMd.o.qO HLd.o.size));have HK6:=hide (dJ K0.o HL6.o K0.o.size);have HZ6:=hide (HB0.o.below HL6.o HBL.o);clear hb9 x0 t3 t6 t11 f3 f11 i0;have i0:=HZ6.o.cell (i:=0) rfl;have i1:=HZ6.o.cell (i:=1) rfl;have i2:=HZ6.o.cell (i:=2) rfl;have i3:=HZ6.o.cell (i:=3) rfl;have i4:=HZ6.o.cell (i:=4) rfl;have i5:=HZ6.o.cell (i:=5) rfl;have i6:=HZ6.o.cell (i:=6) rfl;have i7:=HZ6.o.cell (i:=7) rfl;have i8:=HZ6.o.cell (i:=8) rfl;have i9:=HZ6.o.cell (i:=9) rfl;have i10:=HZ6.o.cell (i:=10) rfl;have i11:=HZ6.o.cell (i:=11) rfl;obtain ⟨gd6,cd6,ga6,ca6,g16,c16,c26,hB9,hO9⟩:=hm9;have HB6:=hide hB9;have HO6:=hide hO9;have hpw6:=hB9.lt;clear hB9 hO9)|(go_at_call 68;have z9:=HMd;refine st (bT _ X.heap.size mid W1.heap.size p g3 _ HM5.o) ?_;rw [hf])|(go_at_call 68;have z9:=HBm;refine st (bT _ X.heap.size mid W1.heap.size p g3 _ HMZ.o) ?_;rw [hf])|(go_at_call 66;refine (tC _ c a b e q ca cb ce cq HA.o HB.o HE.o HQ.o h4 h5 hbx hl hbm).mono ?_;rintro e9 W1 ⟨mid,p,g2,rfl,hm9,hp9,k9⟩;have HM1:=hide hm9;have HK1:=hide k9;have HP1:=hide hp9;have HL1:=hide (dD k9 (Nat.le_refl X.heap.size));obtain ⟨_,_,_,_,_,_,_,hB9,_⟩:=hm9;have hpw1:=hB9.lt;have t3:=(MB.cells hB9).2.2.2.1;clear hp9 k9 hB9)|(go_at_call 67;refine (tJ _ X.heap.size mid W1.heap.size p g2 (Pl.Mc.ofC c) HM1.o HG.o).mono ?_;rintro e9 W2 ⟨rfl,g3,hm9,hb9⟩;have HM2:=hide hm9;have HS2:=hide hb9;have HL2:=hide (HL1.o.trans (fJ hb9 HM1.o.qO HL1.o.size));clear hm9 hb9 t3;unfold mi;have KZ:=kept_alloc W2 (.cells #[iv (Pl.Mc.ofC c).az.op,iv (Pl.Mc.ofC c).az.z,iv (Pl.Mc.ofC c).az.r,iv (Pl.Mc.ofC c).az.m,iv (Pl.Mc.ofC c).az.k,iv (Pl.Mc.ofC c).az.e,iv (Pl.Mc.ofC c).az.s] 109);have BZ:=Blk.new W2 #[iv (Pl.Mc.ofC c).az.op,iv (Pl.Mc.ofC c).az.z,iv (Pl.Mc.ofC c).az.r,iv (Pl.Mc.ofC c).az.m,iv (Pl.Mc.ofC c).az.k,iv (Pl.Mc.ofC c).az.e,iv (Pl.Mc.ofC c).az.s] 109;obtain ⟨Z,hZ⟩:∃Z:World,W2.alloc (.cells #[iv (Pl.Mc.ofC c).az.op,iv (Pl.Mc.ofC c).az.z,iv (Pl.Mc.ofC c).az.r,iv (Pl.Mc.ofC c).az.m,iv (Pl.Mc.ofC c).az.k,iv (Pl.Mc.ofC c).az.e,iv (Pl.Mc.ofC c).az.s] 109)=Z:=⟨_,rfl⟩;rw [hZ] at KZ BZ;have HBZ:=hide BZ;have HMZ:=hide (HM2.o.any KZ);have HLZ:=hide (HL2.o.trans (dD KZ (Nat.le_trans (Nat.le_refl X.heap.size) HL2.o.size)));have HKZ:=hide (dJ K0.o HLZ.o K0.o.size);clear KZ BZ;have HZB:=hide (HB0.o.below HLZ.o HBL.o);clear i0;have i0:=HZB.o.cell (i:=0) rfl;have i1:=HZB.o.cell (i:=1) rfl;have i2:=HZB.o.cell (i:=2) rfl;have i3:=HZB.o.cell (i:=3) rfl;have i4:=HZB.o.cell (i:=4) rfl;have i5:=HZB.o.cell (i:=5) rfl;have i6:=HZB.o.cell (i:=6) rfl;have i7:=HZB.o.cell (i:=7) rfl;have i8:=HZB.o.cell (i:=8) rfl;have i9:=HZB.o.cell (i:=9) rfl;have i10:=HZB.o.cell (i:=10) rfl;have i11:=HZB.o.cell (i:=11) rfl;have hzm:=HMZ.o;obtain ⟨gd,cd,ga,cA,g1,c1,c2,hB9,hO9⟩:=hzm;have HBm:=hide hB9;have HOm:=hide hO9;have hpz:=hB9.lt;clear hB9 hO9;have x0:=HBZ.o.all;have hzx:=HBZ.o.lt)|(go_at_call 69;have z9:=HBm;refine (pq _ (Pl.Mc.ofC c).az.op (Pl.Mc.ofC c).az.z (Pl.Mc.ofC c).az.r (Pl.Mc.ofC c).az.m (Pl.Mc.ofC c).az.k (Pl.Mc.ofC c).az.e (Pl.Mc.ofC c).az.s).mono ?_;rintro e9 W5 ⟨rfl,k9⟩;rw [HPV.o];have HM5:=hide (HMZ.o.any k9);have HB5:=hide (HBm.o.any k9);have HO5:=hide (HOm.o.any k9);have HZ5:=hide (HZB.o.af k9);have HL5:=hide (HLZ.o.trans (dD k9 (Nat.le_trans (Nat.le_refl X.heap.size) HLZ.o.size)));have HK5:=hide (HKZ.o.trans k9);have HX5:=hide (HBZ.o.af k9);clear k9 x0 i0;have i0:=HZ5.o.cell (i:=0) rfl;have i1:=HZ5.o.cell (i:=1) rfl;have i2:=HZ5.o.cell (i:=2) rfl;have i3:=HZ5.o.cell (i:=3) rfl;have i4:=HZ5.o.cell (i:=4) rfl;have i5:=HZ5.o.cell (i:=5) rfl;have i6:=HZ5.o.cell (i:=6) rfl;have i7:=HZ5.o.cell (i:=7) rfl;have i8:=HZ5.o.cell (i:=8) rfl;have i9:=HZ5.o.cell (i:=9) rfl;have i10:=HZ5.o.cell (i:=10) rfl;have i11:=HZ5.o.cell (i:=11) rfl;have x0:=HX5.o.all;obtain ⟨t0,t1,t2,t3,t4,t5,t6,t7,t8,t9,t10,t11,_⟩:=HB5.o.cells;have f11:=HB5.o.frozen 11;have f3:=HB5.o.frozen 3;have hpw5:=HB5.o.lt;clear t0 t1 t2 t4 t5 t7 t8 t9 t10;have HMd:Hid (MAt (W5.setCell ⟨p,3,none⟩ (iv (((Pl.Mc.ofC c).r.p+2*(Pl.Mc.ofC c).bH)%65536))) X.heap.size mid W1.heap.size p g3 ((Pl.Mc.ofC c).fetch.aK (((Pl.Mc.ofC c).r.p+2*(Pl.Mc.ofC c).bH)%65536))):=hide (HM5.o.cP (((Pl.Mc.ofC c).r.p+2*(Pl.Mc.ofC c).bH)%65536));have HLd:=hide (HL5.o.setCell (p:=⟨p,3,none⟩) HP1.o (iv (((Pl.Mc.ofC c).r.p+2*(Pl.Mc.ofC c).bH)%65536)));have hpx:p<W2.heap.size:=HM2.o.lo.2.2.2.2.1)|(go_at_call 64;have z9:=HB6;refine (own4 _ c.r a b ca cb (HAw.o.ai HK6.o) (HBw.o.ai HK6.o) h4 h5).mono ?_;unfold iQ;rintro e9 W3 ⟨gd',cd',ga',ca',rfl,od,oa,d0,d1,a0,a1,da,k9⟩;have hplt:=HB6.o.lt;have HD3:=hide od;have HA3:=hide oa;have HB3:=hide (HB6.o.any k9);have HO3:=hide (HO6.o.any k9);have HK3:=hide (HK6.o.trans k9);have HZ3:=hide (HZ6.o.af k9);have HL3:=hide (HL6.o.trans (dD k9 (Nat.le_trans (Nat.le_refl X.heap.size) HL6.o.size)));clear od oa k9 i0;have i10:=HZ3.o.cell (i:=10) rfl;obtain ⟨u0,u1,u2,u3,u4,u5,u6,u7,u8,u9,u10,u11,u12,u13,u14,u15⟩:=HB3.o.cells;have q0:=HB3.o.frozen 0;have q1:=HB3.o.frozen 1;have q2:=HB3.o.frozen 2;have q3:=HB3.o.frozen 3;have q4:=HB3.o.frozen 4;have q5:=HB3.o.frozen 5;have q6:=HB3.o.frozen 6;have q7:=HB3.o.frozen 7;have q10:=HB3.o.frozen 10))
 have hd3:=HD3.o.lt (by rw [h4];decide)
 have KP:=(MB.jf (w:=W3) (p:=p) (.slice (some ⟨gd',0,none⟩) 4 cd') (.slice (some ⟨ga',0,none⟩) 4 ca') (iv c.r.o) (iv c.r.p) (iv c.r.f) (iv c.r.m) (.bool c.r.s) (.bool c.r.t)).one 10 (.bool c.st)
 have MY:MB (((((((((W3.setCell ⟨p,0,none⟩ ((.slice (some ⟨gd',0,none⟩) 4 cd'))).setCell ⟨p,1,none⟩ ((.slice (some ⟨ga',0,none⟩) 4 ca'))).setCell ⟨p,2,none⟩ ((iv c.r.o))).setCell ⟨p,3,none⟩ ((iv c.r.p))).setCell ⟨p,4,none⟩ ((iv c.r.f))).setCell ⟨p,5,none⟩ ((iv c.r.m))).setCell ⟨p,6,none⟩ ((.bool c.r.s))).setCell ⟨p,7,none⟩ ((.bool c.r.t))).setCell ⟨p,10,none⟩ (.bool c.st)) p gd' cd' ga' ca' g16 c16 g6 c26 {(sd.dB c.r) with st:=c.st}:=(HB3.o.laid2 c.r gd' cd' ga' ca').cSt c.st
 generalize (((((((((W3.setCell ⟨p,0,none⟩ ((.slice (some ⟨gd',0,none⟩) 4 cd'))).setCell ⟨p,1,none⟩ ((.slice (some ⟨ga',0,none⟩) 4 ca'))).setCell ⟨p,2,none⟩ ((iv c.r.o))).setCell ⟨p,3,none⟩ ((iv c.r.p))).setCell ⟨p,4,none⟩ ((iv c.r.f))).setCell ⟨p,5,none⟩ ((iv c.r.m))).setCell ⟨p,6,none⟩ ((.bool c.r.s))).setCell ⟨p,7,none⟩ ((.bool c.r.t))).setCell ⟨p,10,none⟩ (.bool c.st))=Y at KP MY ⊢
 have hop:=HO3.o.p0
 have hob:=HO3.o.b0
 have hog:=HO3.o.g2
 have hobl:=HO3.o.pb
 have hopl:=HO3.o.pl
 have hos:=HO3.o.d0
 have hos2:=HO3.o.d1
 have HYd:=hide (HD3.o.ai KP (by omega)).row
 have HYa:=hide (HA3.o.ai KP (by omega)).row
 have HYb:=hide (HO3.o.b.ai KP (by omega)).row
 have HYl:=hide ((gX HO3.o.l).ai KP (by omega)).row
 have KDY:=hide (ae (Kept.refl 0 0 Y))
 have HMY:=hide (MY.any KDY.o)
 have LY:=hide ((HL3.o.trans (qH KP (by omega) (by have:=HL3.o.size;omega))).drew)
 have HKY:=hide (dJ K0.o LY.o K0.o.size)
 have Dc:=hide (HB1.o.below LY.o (by have:=HXS.o;omega))
 have CX:=hide (HB2.o.below LY.o (by have:=HXS.o;omega))
 have HN1:Hid (¬(w.heap.size+1≤p∧p<w.heap.size+1+1)):=hide (by have:=HXS.o;omega)
 have HN2:Hid (¬(w.heap.size+1+1≤p∧p<w.heap.size+1+1+1)):=hide (by have:=HXS.o;omega)
 have CF:∀W:World,MB W p gd' cd' ga' ca' g16 c16 g6 c26 {(sd.dB c.r) with st:=c.st}→W.cell? ⟨p,11,none⟩=some (iv sd.f.v)∧W.cell? ⟨p,12,none⟩=some (iv sd.f.pc)∧W.cell? ⟨p,13,none⟩=some (iv sd.f.ad)∧W.cell? ⟨p,14,none⟩=some (iv sd.f.wo)∧W.cell? ⟨p,15,none⟩=some (.bool sd.f.wr):=fun W h=>by have z:=yO h;exact z
 have SY:=CF _ HMY.o
 have hyz:X.heap.size≤Y.drew.heap.size:=LY.o.size
 clear KP MY
 go_region_held3 (fun w'=>w'.cell? ⟨p,11,none⟩=some (iv sd.f.v)∧w'.cell? ⟨p,12,none⟩=some (iv sd.f.pc)∧w'.cell? ⟨p,13,none⟩=some (iv sd.f.ad)∧w'.cell? ⟨p,14,none⟩=some (iv sd.f.wo)∧w'.cell? ⟨p,15,none⟩=some (.bool sd.f.wr)) (first|with_reducible exact SY|with_reducible exact S4|with_reducible exact CF _ (HM4.o.pO HN1.o _ _ _ _ _ _ _ _ _ _ _ _)|with_reducible exact CF _ ((HM4.o.pO HN1.o _ _ _ _ _ _ _ _ _ _ _ _).Dv HN2.o _ _ _ _ _)|go_keep) (first|(go_at_call 71;refine (zK _ p gd' cd' ga' ca' g16 c16 g6 c26 {(sd.dB c.r) with st:=c.st} HMY.o (HYd.o.ai KDY.o) (HYa.o.ai KDY.o) (HYb.o.ai KDY.o) (HYl.o.ai KDY.o) h4 h5 HGs.o.bx HGs.o.bl HGs.o.bm).mono ?_;unfold jE;rintro e9 W4 ⟨gd4,cd4,ga4,ca4,g14,c14,g24,c24,mid4,rfl,hc9,k9⟩;have HC:=hide hc9;have HM4:=hide (HMY.o.any k9);have S4:=CF _ HM4.o;have HK4:=hide (HKY.o.trans k9);have aN:=hide (Dc.o.af k9);have dI:=hide (CX.o.af k9);have hs4:=dI.o.lt;clear hc9 k9;have o0:=aN.o.cell (i:=0) rfl;have of0:=aN.o.frozen 0;have o1:=aN.o.cell (i:=1) rfl;have of1:=aN.o.frozen 1;have o2:=aN.o.cell (i:=2) rfl;have of2:=aN.o.frozen 2;have o3:=aN.o.cell (i:=3) rfl;have of3:=aN.o.frozen 3;have o4:=aN.o.cell (i:=4) rfl;have of4:=aN.o.frozen 4;have o5:=aN.o.cell (i:=5) rfl;have of5:=aN.o.frozen 5;have o6:=aN.o.cell (i:=6) rfl;have of6:=aN.o.frozen 6;have o7:=aN.o.cell (i:=7) rfl;have of7:=aN.o.frozen 7;have o8:=aN.o.cell (i:=8) rfl;have of8:=aN.o.frozen 8;have o9:=aN.o.cell (i:=9) rfl;have of9:=aN.o.frozen 9;have o10:=aN.o.cell (i:=10) rfl;have of10:=aN.o.frozen 10;have o11:=aN.o.cell (i:=11) rfl;have of11:=aN.o.frozen 11;have y0:=dI.o.cell (i:=0) rfl;have yf0:=dI.o.frozen 0;have y1:=dI.o.cell (i:=1) rfl;have yf1:=dI.o.frozen 1;have y2:=dI.o.cell (i:=2) rfl;have yf2:=dI.o.frozen 2;have y3:=dI.o.cell (i:=3) rfl;have yf3:=dI.o.frozen 3;have y4:=dI.o.cell (i:=4) rfl;have yf4:=dI.o.frozen 4))
 go_wp2_with fail
 have hxs:=HXS.o
 refine bodyPost_ret (v:=.tuple #[.agg (jE (Pl.au c) gd4 cd4 ga4 ca4 g14 c14 g24 c24),.agg (ftC (Pl.dh c))]) ?_ rfl ⟨gd4,cd4,ga4,ca4,g14,c14,g24,c24,mid4,rfl,?co,?kw⟩
 case co=>
  rw [EC.o]
  refine HC.o.xm (x:=w.heap.size+1) (y:=w.heap.size+3) (by omega) (by omega) ?_
  repeat (first|with_reducible exact Kept.refl _ _ _|refine ag ?_ _ _ _ (.inl (by omega)))
 case kw=>repeat (first|with_reducible exact HK4.o|refine ag ?_ _ _ _ (.inr (by omega)))
 rw [iD rfl,EC.o,EF.o];go_simp;exact ⟨rfl,rfl⟩
theorem Ff (w:World) (c:Pl.Cp) (a b e q:Option Addr) (ca cb ce cq:Nat) (ha:aJ w a c.r.xs) (hb:aJ w b c.r.ys) (he:aJ w e c.bx) (hq:aJ w q c.bl) (hok:Pl.ik c=true) (hl:c.bl.length=5*c.bm) (hf:(Pl.Mc.ofC c).fetch.fine=true) (hp:Pl.iW (Pl.Mc.ofC c).az=true) (hs:(Pl.Mc.ofC c).fetch.r.s=true) (hfs:(((Pl.Mc.ofC c).fetch.aK (((Pl.Mc.ofC c).r.p+2*(Pl.Mc.ofC c).bH)%65536)).doI (Pl.Mc.ofC c).az (Pl.Mc.ofC c).r.p).fine=true) :
  Calls prog 43 #[.agg #[.slice a 4 ca,.slice b 4 cb,iv c.r.o,iv c.r.p,iv c.r.f,iv c.r.m,.bool c.r.s,.bool c.r.t,.slice e 512 ce,.slice q c.bm cq,.bool c.st,.bool c.ha]] w fun r w'=>∃gd cd ga cA g1 c1 g2 c2 mid:Nat,r=.returned (.tuple #[.agg (jE (Pl.au c) gd cd ga cA g1 c1 g2 c2),.agg (ftC (Pl.dh c))])∧CO w' w.heap.size mid (Pl.au c) gd ga g1 g2 c2∧Kept 0 0 w w':=by
 have HG:=hide (Pl.GM.of hok hl c.st)
 have h4:=HG.o.g.d4
 have h5:=HG.o.g.a4
 have hbx:=HG.o.bx
 have hbm:=HG.o.bm
 have K0:=hide (ah (ah (kept_alloc w (.cells #[.slice a 4 ca,.slice b 4 cb,iv c.r.o,iv c.r.p,iv c.r.f,iv c.r.m,.bool c.r.s,.bool c.r.t,.slice e 512 ce,.slice q c.bm cq,.bool c.st,.bool c.ha] 36)) (.cells cpZ 36)) (.cells ftZ 49))
 have B0:=((Blk.new w #[.slice a 4 ca,.slice b 4 cb,iv c.r.o,iv c.r.p,iv c.r.f,iv c.r.m,.bool c.r.s,.bool c.r.t,.slice e 512 ce,.slice q c.bm cq,.bool c.st,.bool c.ha] 36).alloc (.cells cpZ 36)).alloc (.cells ftZ 49)
 have B1:=(Blk.new (w.alloc (.cells #[.slice a 4 ca,.slice b 4 cb,iv c.r.o,iv c.r.p,iv c.r.f,iv c.r.m,.bool c.r.s,.bool c.r.t,.slice e 512 ce,.slice q c.bm cq,.bool c.st,.bool c.ha] 36)) cpZ 36).alloc (.cells ftZ 49)
 have B2:=Blk.new ((w.alloc (.cells #[.slice a 4 ca,.slice b 4 cb,iv c.r.o,iv c.r.p,iv c.r.f,iv c.r.m,.bool c.r.s,.bool c.r.t,.slice e 512 ce,.slice q c.bm cq,.bool c.st,.bool c.ha] 36)).alloc (.cells cpZ 36)) ftZ 49
 simp only [World.size_alloc] at B1 B2
 obtain ⟨X,hX⟩:∃X:World,((w.alloc (.cells #[.slice a 4 ca,.slice b 4 cb,iv c.r.o,iv c.r.p,iv c.r.f,iv c.r.m,.bool c.r.s,.bool c.r.t,.slice e 512 ce,.slice q c.bm cq,.bool c.st,.bool c.ha] 36)).alloc (.cells cpZ 36)).alloc (.cells ftZ 49)=X:=⟨_,rfl⟩
 rw [hX] at K0 B0 B1 B2
 have hxs:X.heap.size=w.heap.size+3:=by rw [←hX];simp
 have HXS:=hide hxs
 have HB0:=hide B0
 have HB1:=hide B1
 have HB2:=hide B2
 have HA:=hide (ha.ai K0.o)
 have HB:=hide (hb.ai K0.o)
 have HE:=hide (he.ai K0.o)
 have HQ:=hide (hq.ai K0.o)
 have HAw:=hide ha
 have HBw:=hide hb
 clear B0 B1 B2 ha hb he hq hxs
 have i0:=HB0.o.all
 obtain ⟨hin,hfn⟩:=Pl.ng hf
 have hpp0:0≤(Pl.Mc.ofC c).r.p:=HG.o.p0
 have hpp1:(Pl.Mc.ofC c).r.p≤65535:=HG.o.p1
 have HGd:Hid (Pl.GM ((Pl.Mc.ofC c).fetch.aK (((Pl.Mc.ofC c).r.p+2*(Pl.Mc.ofC c).bH)%65536))):=hide ((Pl.GM.fetch HG.o).aK (by omega) (by omega))
 have hfd:((Pl.Mc.ofC c).fetch.aK (((Pl.Mc.ofC c).r.p+2*(Pl.Mc.ofC c).bH)%65536)).fine=true:=hf
 have HGs:=hide (HGd.o.doI hin (Pl.Mc.ofC c).r.p)
 have HDO:=fun w9 mid hi p g3 h9=>mDo w9 X.heap.size mid hi p g3 ((Pl.Mc.ofC c).fetch.aK (((Pl.Mc.ofC c).r.p+2*(Pl.Mc.ofC c).bH)%65536)) (Pl.Mc.ofC c).az (Pl.Mc.ofC c).r.p h9 HGd.o hin hpp0 hpp1 hfd
 have ES:Pl.stepM c=((Pl.Mc.ofC c).fetch.aK (((Pl.Mc.ofC c).r.p+2*(Pl.Mc.ofC c).bH)%65536)).doI (Pl.Mc.ofC c).az (Pl.Mc.ofC c).r.p:=by
  have e1:(Pl.Mc.ofC c).s1=(Pl.Mc.ofC c).fetch:=by unfold Pl.Mc.s1;rw [hf,hp,hs];rfl
  unfold Pl.stepM Pl.Mc.s2;rw [e1,hf];rfl
 obtain ⟨sd,hsd⟩:∃s,((Pl.Mc.ofC c).fetch.aK (((Pl.Mc.ofC c).r.p+2*(Pl.Mc.ofC c).bH)%65536)).doI (Pl.Mc.ofC c).az (Pl.Mc.ofC c).r.p=s:=⟨_,rfl⟩
 rw [hsd] at HGs hfs ES
 simp only [hsd] at HDO
 clear hsd
 have EC:Hid (Pl.au c=sd.cpu false):=hide (by unfold Pl.au;rw [ES,hfs];rfl)
 have EF:Hid (Pl.dh c=Pl.aI):=hide (by unfold Pl.dh;rw [ES,hfs];rfl)
 have HBL:Hid (w.heap.size<X.heap.size):=hide (by have:=HXS.o;omega)
 have UW:Hid (w.heap.size+1<X.heap.size):=hide (by have:=HXS.o;omega)
 have UV:Hid (w.heap.size+1+1<X.heap.size):=hide (by have:=HXS.o;omega)
 have HPV:Hid (Pl.iW ⟨(Pl.Mc.ofC c).az.op,(Pl.Mc.ofC c).az.z,(Pl.Mc.ofC c).az.r,(Pl.Mc.ofC c).az.m,(Pl.Mc.ofC c).az.k,(Pl.Mc.ofC c).az.e,(Pl.Mc.ofC c).az.s⟩=true):=hide hp
 have hmk:=mg ((Pl.Mc.ofC c).r.p+2*(Pl.Mc.ofC c).bH)
 have hn0:1≤(Pl.Mc.ofC c).bH:=by omega
 have hn1:(Pl.Mc.ofC c).bH≤2:=by omega
 clear ES hp hfn hin hfd
 go_enter func43,ntmps43
 go_wp2_with (first|(go_at_call 68;have z9:=HM6;refine st (bT _ X.heap.size mid W1.heap.size p g6 _ HM6.o) ?_;rw [hfs])|(go_at_call 70;have z9:=HMd;refine (HDO _ mid W1.heap.size p g3 HMd.o).mono ?_;rintro e9 W6 ⟨rfl,g6,hm9,hb9⟩;have HM6:=hide hm9;have HL6:=hide (HLd.o.trans (fJ hb9 HMd.o.qO HLd.o.size));have HK6:=hide (dJ K0.o HL6.o K0.o.size);have HZ6:=hide (HB0.o.below HL6.o HBL.o);clear hb9 x0 t3 t6 t11 f3 f11 i0;have i0:=HZ6.o.all;obtain ⟨gd6,cd6,ga6,ca6,g16,c16,c26,hB9,hO9⟩:=hm9;have HB6:=hide hB9;have HO6:=hide hO9;have hpw6:=hB9.lt;clear hB9 hO9)|(go_at_call 68;have z9:=HMd;refine st (bT _ X.heap.size mid W1.heap.size p g3 _ HM5.o) ?_;rw [hf])|(go_at_call 68;have z9:=HBm;refine st (bT _ X.heap.size mid W1.heap.size p g3 _ HMZ.o) ?_;rw [hf])|(go_at_call 66;refine (tC _ c a b e q ca cb ce cq HA.o HB.o HE.o HQ.o h4 h5 hbx hl hbm).mono ?_;rintro e9 W1 ⟨mid,p,g2,rfl,hm9,hp9,k9⟩;have HM1:=hide hm9;have HK1:=hide k9;have HP1:=hide hp9;have HL1:=hide (dD k9 (Nat.le_refl X.heap.size));obtain ⟨_,_,_,_,_,_,_,hB9,_⟩:=hm9;have hpw1:=hB9.lt;have t3:=(MB.cells hB9).2.2.2.1;clear hp9 k9 hB9)|(go_at_call 67;refine (tJ _ X.heap.size mid W1.heap.size p g2 (Pl.Mc.ofC c) HM1.o HG.o).mono ?_;rintro e9 W2 ⟨rfl,g3,hm9,hb9⟩;have HM2:=hide hm9;have HS2:=hide hb9;have HL2:=hide (HL1.o.trans (fJ hb9 HM1.o.qO HL1.o.size));clear hm9 hb9 t3;unfold mi;have KZ:=kept_alloc W2 (.cells #[iv (Pl.Mc.ofC c).az.op,iv (Pl.Mc.ofC c).az.z,iv (Pl.Mc.ofC c).az.r,iv (Pl.Mc.ofC c).az.m,iv (Pl.Mc.ofC c).az.k,iv (Pl.Mc.ofC c).az.e,iv (Pl.Mc.ofC c).az.s] 109);have BZ:=Blk.new W2 #[iv (Pl.Mc.ofC c).az.op,iv (Pl.Mc.ofC c).az.z,iv (Pl.Mc.ofC c).az.r,iv (Pl.Mc.ofC c).az.m,iv (Pl.Mc.ofC c).az.k,iv (Pl.Mc.ofC c).az.e,iv (Pl.Mc.ofC c).az.s] 109;obtain ⟨Z,hZ⟩:∃Z:World,W2.alloc (.cells #[iv (Pl.Mc.ofC c).az.op,iv (Pl.Mc.ofC c).az.z,iv (Pl.Mc.ofC c).az.r,iv (Pl.Mc.ofC c).az.m,iv (Pl.Mc.ofC c).az.k,iv (Pl.Mc.ofC c).az.e,iv (Pl.Mc.ofC c).az.s] 109)=Z:=⟨_,rfl⟩;rw [hZ] at KZ BZ;have HBZ:=hide BZ;have HMZ:=hide (HM2.o.any KZ);have HLZ:=hide (HL2.o.trans (dD KZ (Nat.le_trans (Nat.le_refl X.heap.size) HL2.o.size)));have HKZ:=hide (dJ K0.o HLZ.o K0.o.size);clear KZ BZ;have HZB:=hide (HB0.o.below HLZ.o HBL.o);clear i0;have i0:=HZB.o.all;have hzm:=HMZ.o;obtain ⟨gd,cd,ga,cA,g1,c1,c2,hB9,hO9⟩:=hzm;have HBm:=hide hB9;have HOm:=hide hO9;have hpz:=hB9.lt;clear hB9 hO9;have x0:=HBZ.o.all;have hzx:=HBZ.o.lt)|(go_at_call 69;have z9:=HBm;refine (pq _ (Pl.Mc.ofC c).az.op (Pl.Mc.ofC c).az.z (Pl.Mc.ofC c).az.r (Pl.Mc.ofC c).az.m (Pl.Mc.ofC c).az.k (Pl.Mc.ofC c).az.e (Pl.Mc.ofC c).az.s).mono ?_;rintro e9 W5 ⟨rfl,k9⟩;rw [HPV.o];have HM5:=hide (HMZ.o.any k9);have HB5:=hide (HBm.o.any k9);have HO5:=hide (HOm.o.any k9);have HZ5:=hide (HZB.o.af k9);have HL5:=hide (HLZ.o.trans (dD k9 (Nat.le_trans (Nat.le_refl X.heap.size) HLZ.o.size)));have HK5:=hide (HKZ.o.trans k9);have HX5:=hide (HBZ.o.af k9);clear k9 x0 i0;have i0:=HZ5.o.all;have x0:=HX5.o.all;obtain ⟨t0,t1,t2,t3,t4,t5,t6,t7,t8,t9,t10,t11,_⟩:=HB5.o.cells;have f11:=HB5.o.frozen 11;have f3:=HB5.o.frozen 3;have hpw5:=HB5.o.lt;clear t0 t1 t2 t4 t5 t7 t8 t9 t10;rw [hs] at t6;have HMd:Hid (MAt (W5.setCell ⟨p,3,none⟩ (iv (((Pl.Mc.ofC c).r.p+2*(Pl.Mc.ofC c).bH)%65536))) X.heap.size mid W1.heap.size p g3 ((Pl.Mc.ofC c).fetch.aK (((Pl.Mc.ofC c).r.p+2*(Pl.Mc.ofC c).bH)%65536))):=hide (HM5.o.cP (((Pl.Mc.ofC c).r.p+2*(Pl.Mc.ofC c).bH)%65536));have HLd:=hide (HL5.o.setCell (p:=⟨p,3,none⟩) HP1.o (iv (((Pl.Mc.ofC c).r.p+2*(Pl.Mc.ofC c).bH)%65536)));have hpx:p<W2.heap.size:=HM2.o.lo.2.2.2.2.1)|(go_at_call 71;refine (V5 _ X.heap.size mid W1.heap.size p g6 sd HM6.o HGs.o).mono ?_;unfold jE;rintro e9 W4 ⟨gd4,cd4,ga4,ca4,g14,c14,g24,c24,mid4,rfl,hc9,k9⟩;have HC:=hide hc9;have HK4:=hide (HK6.o.trans k9);have aN:=hide ((HB1.o.below HL6.o UW.o).af k9);have dI:=hide ((HB2.o.below HL6.o UV.o).af k9);have hs4:=dI.o.lt;clear hc9 k9;have o0:=aN.o.cell (i:=0) rfl;have of0:=aN.o.frozen 0;have o1:=aN.o.cell (i:=1) rfl;have of1:=aN.o.frozen 1;have o2:=aN.o.cell (i:=2) rfl;have of2:=aN.o.frozen 2;have o3:=aN.o.cell (i:=3) rfl;have of3:=aN.o.frozen 3;have o4:=aN.o.cell (i:=4) rfl;have of4:=aN.o.frozen 4;have o5:=aN.o.cell (i:=5) rfl;have of5:=aN.o.frozen 5;have o6:=aN.o.cell (i:=6) rfl;have of6:=aN.o.frozen 6;have o7:=aN.o.cell (i:=7) rfl;have of7:=aN.o.frozen 7;have o8:=aN.o.cell (i:=8) rfl;have of8:=aN.o.frozen 8;have o9:=aN.o.cell (i:=9) rfl;have of9:=aN.o.frozen 9;have o10:=aN.o.cell (i:=10) rfl;have of10:=aN.o.frozen 10;have o11:=aN.o.cell (i:=11) rfl;have of11:=aN.o.frozen 11;have y0:=dI.o.cell (i:=0) rfl;have yf0:=dI.o.frozen 0;have y1:=dI.o.cell (i:=1) rfl;have yf1:=dI.o.frozen 1;have y2:=dI.o.cell (i:=2) rfl;have yf2:=dI.o.frozen 2;have y3:=dI.o.cell (i:=3) rfl;have yf3:=dI.o.frozen 3;have y4:=dI.o.cell (i:=4) rfl;have yf4:=dI.o.frozen 4))
 have hxs:=HXS.o
 have hl6:=HL6.o.size
 refine bodyPost_ret (v:=.tuple #[.agg (jE (Pl.au c) gd4 cd4 ga4 ca4 g14 c14 g24 c24),.agg (ftC (Pl.dh c))]) ?_ rfl ⟨gd4,cd4,ga4,ca4,g14,c14,g24,c24,mid4,rfl,?co,?kw⟩
 case co=>
  rw [EC.o]
  refine HC.o.xm (x:=w.heap.size+1) (y:=w.heap.size+3) (by omega) (by omega) ?_
  repeat (first|with_reducible exact Kept.refl _ _ _|refine ag ?_ _ _ _ (.inl (by omega)))
 case kw=>repeat (first|with_reducible exact HK4.o|refine ag ?_ _ _ _ (.inr (by omega)))
 rw [iD rfl,EC.o,EF.o];go_simp;exact ⟨rfl,rfl⟩
theorem Bz (w:World) (c:Pl.Cp) (a b e q:Option Addr) (ca cb ce cq:Nat) (ha:aJ w a c.r.xs) (hb:aJ w b c.r.ys) (he:aJ w e c.bx) (hq:aJ w q c.bl) (hok:Pl.ik c=true) (hl:c.bl.length=5*c.bm) (hf:(Pl.Mc.ofC c).fetch.fine=true) (hp:Pl.iW (Pl.Mc.ofC c).az=true) (hs:(Pl.Mc.ofC c).fetch.r.s=true) (hfs:(((Pl.Mc.ofC c).fetch.aK (((Pl.Mc.ofC c).r.p+2*(Pl.Mc.ofC c).bH)%65536)).doI (Pl.Mc.ofC c).az (Pl.Mc.ofC c).r.p).fine=false) :
  Calls prog 43 #[.agg #[.slice a 4 ca,.slice b 4 cb,iv c.r.o,iv c.r.p,iv c.r.f,iv c.r.m,.bool c.r.s,.bool c.r.t,.slice e 512 ce,.slice q c.bm cq,.bool c.st,.bool c.ha]] w fun r w'=>∃gd cd ga cA g1 c1 g2 c2 mid:Nat,r=.returned (.tuple #[.agg (jE (Pl.au c) gd cd ga cA g1 c1 g2 c2),.agg (ftC (Pl.dh c))])∧CO w' w.heap.size mid (Pl.au c) gd ga g1 g2 c2∧Kept 0 0 w w':=by
 have HG:=hide (Pl.GM.of hok hl c.st)
 have h4:=HG.o.g.d4
 have h5:=HG.o.g.a4
 have hbx:=HG.o.bx
 have hbm:=HG.o.bm
 have K0:=hide (ah (ah (kept_alloc w (.cells #[.slice a 4 ca,.slice b 4 cb,iv c.r.o,iv c.r.p,iv c.r.f,iv c.r.m,.bool c.r.s,.bool c.r.t,.slice e 512 ce,.slice q c.bm cq,.bool c.st,.bool c.ha] 36)) (.cells cpZ 36)) (.cells ftZ 49))
 have B0:=((Blk.new w #[.slice a 4 ca,.slice b 4 cb,iv c.r.o,iv c.r.p,iv c.r.f,iv c.r.m,.bool c.r.s,.bool c.r.t,.slice e 512 ce,.slice q c.bm cq,.bool c.st,.bool c.ha] 36).alloc (.cells cpZ 36)).alloc (.cells ftZ 49)
 have B1:=(Blk.new (w.alloc (.cells #[.slice a 4 ca,.slice b 4 cb,iv c.r.o,iv c.r.p,iv c.r.f,iv c.r.m,.bool c.r.s,.bool c.r.t,.slice e 512 ce,.slice q c.bm cq,.bool c.st,.bool c.ha] 36)) cpZ 36).alloc (.cells ftZ 49)
 have B2:=Blk.new ((w.alloc (.cells #[.slice a 4 ca,.slice b 4 cb,iv c.r.o,iv c.r.p,iv c.r.f,iv c.r.m,.bool c.r.s,.bool c.r.t,.slice e 512 ce,.slice q c.bm cq,.bool c.st,.bool c.ha] 36)).alloc (.cells cpZ 36)) ftZ 49
 simp only [World.size_alloc] at B1 B2
 obtain ⟨X,hX⟩:∃X:World,((w.alloc (.cells #[.slice a 4 ca,.slice b 4 cb,iv c.r.o,iv c.r.p,iv c.r.f,iv c.r.m,.bool c.r.s,.bool c.r.t,.slice e 512 ce,.slice q c.bm cq,.bool c.st,.bool c.ha] 36)).alloc (.cells cpZ 36)).alloc (.cells ftZ 49)=X:=⟨_,rfl⟩
 rw [hX] at K0 B0 B1 B2
 have hxs:X.heap.size=w.heap.size+3:=by rw [←hX];simp
 have HXS:=hide hxs
 have HB0:=hide B0
 have HB1:=hide B1
 have HB2:=hide B2
 have HA:=hide (ha.ai K0.o)
 have HB:=hide (hb.ai K0.o)
 have HE:=hide (he.ai K0.o)
 have HQ:=hide (hq.ai K0.o)
 have HAw:=hide ha
 have HBw:=hide hb
 clear B0 B1 B2 ha hb he hq hxs
 have i0:=HB0.o.all
 obtain ⟨hin,hfn⟩:=Pl.ng hf
 have hpp0:0≤(Pl.Mc.ofC c).r.p:=HG.o.p0
 have hpp1:(Pl.Mc.ofC c).r.p≤65535:=HG.o.p1
 have HGd:Hid (Pl.GM ((Pl.Mc.ofC c).fetch.aK (((Pl.Mc.ofC c).r.p+2*(Pl.Mc.ofC c).bH)%65536))):=hide ((Pl.GM.fetch HG.o).aK (by omega) (by omega))
 have hfd:((Pl.Mc.ofC c).fetch.aK (((Pl.Mc.ofC c).r.p+2*(Pl.Mc.ofC c).bH)%65536)).fine=true:=hf
 have HGs:=hide (HGd.o.doI hin (Pl.Mc.ofC c).r.p)
 have HDO:=fun w9 mid hi p g3 h9=>mDo w9 X.heap.size mid hi p g3 ((Pl.Mc.ofC c).fetch.aK (((Pl.Mc.ofC c).r.p+2*(Pl.Mc.ofC c).bH)%65536)) (Pl.Mc.ofC c).az (Pl.Mc.ofC c).r.p h9 HGd.o hin hpp0 hpp1 hfd
 have ES:Pl.stepM c=((Pl.Mc.ofC c).fetch.aK (((Pl.Mc.ofC c).r.p+2*(Pl.Mc.ofC c).bH)%65536)).doI (Pl.Mc.ofC c).az (Pl.Mc.ofC c).r.p:=by
  have e1:(Pl.Mc.ofC c).s1=(Pl.Mc.ofC c).fetch:=by unfold Pl.Mc.s1;rw [hf,hp,hs];rfl
  unfold Pl.stepM Pl.Mc.s2;rw [e1,hf];rfl
 obtain ⟨sd,hsd⟩:∃s,((Pl.Mc.ofC c).fetch.aK (((Pl.Mc.ofC c).r.p+2*(Pl.Mc.ofC c).bH)%65536)).doI (Pl.Mc.ofC c).az (Pl.Mc.ofC c).r.p=s:=⟨_,rfl⟩
 rw [hsd] at HGs hfs ES
 simp only [hsd] at HDO
 clear hsd
 have EC:Hid (Pl.au c=Pl.Mc.cpu {(sd.dB c.r) with st:=c.st} false):=hide (by unfold Pl.au;rw [ES,hfs];rfl)
 have EF:Hid (Pl.dh c=sd.f):=hide (by unfold Pl.dh;rw [ES,hfs];rfl)
 have HBL:Hid (w.heap.size<X.heap.size):=hide (by have:=HXS.o;omega)
 have HPV:Hid (Pl.iW ⟨(Pl.Mc.ofC c).az.op,(Pl.Mc.ofC c).az.z,(Pl.Mc.ofC c).az.r,(Pl.Mc.ofC c).az.m,(Pl.Mc.ofC c).az.k,(Pl.Mc.ofC c).az.e,(Pl.Mc.ofC c).az.s⟩=true):=hide hp
 have hmk:=mg ((Pl.Mc.ofC c).r.p+2*(Pl.Mc.ofC c).bH)
 have hn0:1≤(Pl.Mc.ofC c).bH:=by omega
 have hn1:(Pl.Mc.ofC c).bH≤2:=by omega
 clear ES hp hfn hin hfd
 go_enter func43,ntmps43
 go_wp2_with (first|(go_at_call 68;have z9:=HM6;refine st (bT _ X.heap.size mid W1.heap.size p g6 _ HM6.o) ?_;rw [hfs])|(go_at_call 70;have z9:=HMd;refine (HDO _ mid W1.heap.size p g3 HMd.o).mono ?_;rintro e9 W6 ⟨rfl,g6,hm9,hb9⟩;have HM6:=hide hm9;have HL6:=hide (HLd.o.trans (fJ hb9 HMd.o.qO HLd.o.size));have HK6:=hide (dJ K0.o HL6.o K0.o.size);have HZ6:=hide (HB0.o.below HL6.o HBL.o);clear hb9 x0 t3 t6 t11 f3 f11 i0;have i0:=HZ6.o.cell (i:=0) rfl;have i1:=HZ6.o.cell (i:=1) rfl;have i2:=HZ6.o.cell (i:=2) rfl;have i3:=HZ6.o.cell (i:=3) rfl;have i4:=HZ6.o.cell (i:=4) rfl;have i5:=HZ6.o.cell (i:=5) rfl;have i6:=HZ6.o.cell (i:=6) rfl;have i7:=HZ6.o.cell (i:=7) rfl;have i8:=HZ6.o.cell (i:=8) rfl;have i9:=HZ6.o.cell (i:=9) rfl;have i10:=HZ6.o.cell (i:=10) rfl;have i11:=HZ6.o.cell (i:=11) rfl;obtain ⟨gd6,cd6,ga6,ca6,g16,c16,c26,hB9,hO9⟩:=hm9;have HB6:=hide hB9;have HO6:=hide hO9;have hpw6:=hB9.lt;clear hB9 hO9)|(go_at_call 68;have z9:=HMd;refine st (bT _ X.heap.size mid W1.heap.size p g3 _ HM5.o) ?_;rw [hf])|(go_at_call 68;have z9:=HBm;refine st (bT _ X.heap.size mid W1.heap.size p g3 _ HMZ.o) ?_;rw [hf])|(go_at_call 66;refine (tC _ c a b e q ca cb ce cq HA.o HB.o HE.o HQ.o h4 h5 hbx hl hbm).mono ?_;rintro e9 W1 ⟨mid,p,g2,rfl,hm9,hp9,k9⟩;have HM1:=hide hm9;have HK1:=hide k9;have HP1:=hide hp9;have HL1:=hide (dD k9 (Nat.le_refl X.heap.size));obtain ⟨_,_,_,_,_,_,_,hB9,_⟩:=hm9;have hpw1:=hB9.lt;have t3:=(MB.cells hB9).2.2.2.1;clear hp9 k9 hB9)|(go_at_call 67;refine (tJ _ X.heap.size mid W1.heap.size p g2 (Pl.Mc.ofC c) HM1.o HG.o).mono ?_;rintro e9 W2 ⟨rfl,g3,hm9,hb9⟩;have HM2:=hide hm9;have HS2:=hide hb9;have HL2:=hide (HL1.o.trans (fJ hb9 HM1.o.qO HL1.o.size));clear hm9 hb9 t3;unfold mi;have KZ:=kept_alloc W2 (.cells #[iv (Pl.Mc.ofC c).az.op,iv (Pl.Mc.ofC c).az.z,iv (Pl.Mc.ofC c).az.r,iv (Pl.Mc.ofC c).az.m,iv (Pl.Mc.ofC c).az.k,iv (Pl.Mc.ofC c).az.e,iv (Pl.Mc.ofC c).az.s] 109);have BZ:=Blk.new W2 #[iv (Pl.Mc.ofC c).az.op,iv (Pl.Mc.ofC c).az.z,iv (Pl.Mc.ofC c).az.r,iv (Pl.Mc.ofC c).az.m,iv (Pl.Mc.ofC c).az.k,iv (Pl.Mc.ofC c).az.e,iv (Pl.Mc.ofC c).az.s] 109;obtain ⟨Z,hZ⟩:∃Z:World,W2.alloc (.cells #[iv (Pl.Mc.ofC c).az.op,iv (Pl.Mc.ofC c).az.z,iv (Pl.Mc.ofC c).az.r,iv (Pl.Mc.ofC c).az.m,iv (Pl.Mc.ofC c).az.k,iv (Pl.Mc.ofC c).az.e,iv (Pl.Mc.ofC c).az.s] 109)=Z:=⟨_,rfl⟩;rw [hZ] at KZ BZ;have HBZ:=hide BZ;have HMZ:=hide (HM2.o.any KZ);have HLZ:=hide (HL2.o.trans (dD KZ (Nat.le_trans (Nat.le_refl X.heap.size) HL2.o.size)));have HKZ:=hide (dJ K0.o HLZ.o K0.o.size);clear KZ BZ;have HZB:=hide (HB0.o.below HLZ.o HBL.o);clear i0;have i0:=HZB.o.cell (i:=0) rfl;have i1:=HZB.o.cell (i:=1) rfl;have i2:=HZB.o.cell (i:=2) rfl;have i3:=HZB.o.cell (i:=3) rfl;have i4:=HZB.o.cell (i:=4) rfl;have i5:=HZB.o.cell (i:=5) rfl;have i6:=HZB.o.cell (i:=6) rfl;have i7:=HZB.o.cell (i:=7) rfl;have i8:=HZB.o.cell (i:=8) rfl;have i9:=HZB.o.cell (i:=9) rfl;have i10:=HZB.o.cell (i:=10) rfl;have i11:=HZB.o.cell (i:=11) rfl;have hzm:=HMZ.o;obtain ⟨gd,cd,ga,cA,g1,c1,c2,hB9,hO9⟩:=hzm;have HBm:=hide hB9;have HOm:=hide hO9;have hpz:=hB9.lt;clear hB9 hO9;have x0:=HBZ.o.all;have hzx:=HBZ.o.lt)|(go_at_call 69;have z9:=HBm;refine (pq _ (Pl.Mc.ofC c).az.op (Pl.Mc.ofC c).az.z (Pl.Mc.ofC c).az.r (Pl.Mc.ofC c).az.m (Pl.Mc.ofC c).az.k (Pl.Mc.ofC c).az.e (Pl.Mc.ofC c).az.s).mono ?_;rintro e9 W5 ⟨rfl,k9⟩;rw [HPV.o];have HM5:=hide (HMZ.o.any k9);have HB5:=hide (HBm.o.any k9);have HO5:=hide (HOm.o.any k9);have HZ5:=hide (HZB.o.af k9);have HL5:=hide (HLZ.o.trans (dD k9 (Nat.le_trans (Nat.le_refl X.heap.size) HLZ.o.size)));have HK5:=hide (HKZ.o.trans k9);have HX5:=hide (HBZ.o.af k9);clear k9 x0 i0;have i0:=HZ5.o.cell (i:=0) rfl;have i1:=HZ5.o.cell (i:=1) rfl;have i2:=HZ5.o.cell (i:=2) rfl;have i3:=HZ5.o.cell (i:=3) rfl;have i4:=HZ5.o.cell (i:=4) rfl;have i5:=HZ5.o.cell (i:=5) rfl;have i6:=HZ5.o.cell (i:=6) rfl;have i7:=HZ5.o.cell (i:=7) rfl;have i8:=HZ5.o.cell (i:=8) rfl;have i9:=HZ5.o.cell (i:=9) rfl;have i10:=HZ5.o.cell (i:=10) rfl;have i11:=HZ5.o.cell (i:=11) rfl;have x0:=HX5.o.all;obtain ⟨t0,t1,t2,t3,t4,t5,t6,t7,t8,t9,t10,t11,_⟩:=HB5.o.cells;have f11:=HB5.o.frozen 11;have f3:=HB5.o.frozen 3;have hpw5:=HB5.o.lt;clear t0 t1 t2 t4 t5 t7 t8 t9 t10;rw [hs] at t6;have HMd:Hid (MAt (W5.setCell ⟨p,3,none⟩ (iv (((Pl.Mc.ofC c).r.p+2*(Pl.Mc.ofC c).bH)%65536))) X.heap.size mid W1.heap.size p g3 ((Pl.Mc.ofC c).fetch.aK (((Pl.Mc.ofC c).r.p+2*(Pl.Mc.ofC c).bH)%65536))):=hide (HM5.o.cP (((Pl.Mc.ofC c).r.p+2*(Pl.Mc.ofC c).bH)%65536));have HLd:=hide (HL5.o.setCell (p:=⟨p,3,none⟩) HP1.o (iv (((Pl.Mc.ofC c).r.p+2*(Pl.Mc.ofC c).bH)%65536)));have hpx:p<W2.heap.size:=HM2.o.lo.2.2.2.2.1)|(go_at_call 64;have z9:=HB6;refine (own4 _ c.r a b ca cb (HAw.o.ai HK6.o) (HBw.o.ai HK6.o) h4 h5).mono ?_;unfold iQ;rintro e9 W3 ⟨gd',cd',ga',ca',rfl,od,oa,d0,d1,a0,a1,da,k9⟩;have hplt:=HB6.o.lt;have HD3:=hide od;have HA3:=hide oa;have HB3:=hide (HB6.o.any k9);have HO3:=hide (HO6.o.any k9);have HK3:=hide (HK6.o.trans k9);have HZ3:=hide (HZ6.o.af k9);have HL3:=hide (HL6.o.trans (dD k9 (Nat.le_trans (Nat.le_refl X.heap.size) HL6.o.size)));clear od oa k9 i0;have i10:=HZ3.o.cell (i:=10) rfl;obtain ⟨u0,u1,u2,u3,u4,u5,u6,u7,u8,u9,u10,u11,u12,u13,u14,u15⟩:=HB3.o.cells;have q0:=HB3.o.frozen 0;have q1:=HB3.o.frozen 1;have q2:=HB3.o.frozen 2;have q3:=HB3.o.frozen 3;have q4:=HB3.o.frozen 4;have q5:=HB3.o.frozen 5;have q6:=HB3.o.frozen 6;have q7:=HB3.o.frozen 7;have q10:=HB3.o.frozen 10))
 have hd3:=HD3.o.lt (by rw [h4];decide)
 have KP:=(MB.jf (w:=W3) (p:=p) (.slice (some ⟨gd',0,none⟩) 4 cd') (.slice (some ⟨ga',0,none⟩) 4 ca') (iv c.r.o) (iv c.r.p) (iv c.r.f) (iv c.r.m) (.bool c.r.s) (.bool c.r.t)).one 10 (.bool c.st)
 have MY:MB (((((((((W3.setCell ⟨p,0,none⟩ ((.slice (some ⟨gd',0,none⟩) 4 cd'))).setCell ⟨p,1,none⟩ ((.slice (some ⟨ga',0,none⟩) 4 ca'))).setCell ⟨p,2,none⟩ ((iv c.r.o))).setCell ⟨p,3,none⟩ ((iv c.r.p))).setCell ⟨p,4,none⟩ ((iv c.r.f))).setCell ⟨p,5,none⟩ ((iv c.r.m))).setCell ⟨p,6,none⟩ ((.bool c.r.s))).setCell ⟨p,7,none⟩ ((.bool c.r.t))).setCell ⟨p,10,none⟩ (.bool c.st)) p gd' cd' ga' ca' g16 c16 g6 c26 {(sd.dB c.r) with st:=c.st}:=(HB3.o.laid2 c.r gd' cd' ga' ca').cSt c.st
 generalize (((((((((W3.setCell ⟨p,0,none⟩ ((.slice (some ⟨gd',0,none⟩) 4 cd'))).setCell ⟨p,1,none⟩ ((.slice (some ⟨ga',0,none⟩) 4 ca'))).setCell ⟨p,2,none⟩ ((iv c.r.o))).setCell ⟨p,3,none⟩ ((iv c.r.p))).setCell ⟨p,4,none⟩ ((iv c.r.f))).setCell ⟨p,5,none⟩ ((iv c.r.m))).setCell ⟨p,6,none⟩ ((.bool c.r.s))).setCell ⟨p,7,none⟩ ((.bool c.r.t))).setCell ⟨p,10,none⟩ (.bool c.st))=Y at KP MY ⊢
 have hop:=HO3.o.p0
 have hob:=HO3.o.b0
 have hog:=HO3.o.g2
 have hobl:=HO3.o.pb
 have hopl:=HO3.o.pl
 have hos:=HO3.o.d0
 have hos2:=HO3.o.d1
 have HYd:=hide (HD3.o.ai KP (by omega)).row
 have HYa:=hide (HA3.o.ai KP (by omega)).row
 have HYb:=hide (HO3.o.b.ai KP (by omega)).row
 have HYl:=hide ((gX HO3.o.l).ai KP (by omega)).row
 have KDY:=hide (ae (Kept.refl 0 0 Y))
 have HMY:=hide (MY.any KDY.o)
 have LY:=hide ((HL3.o.trans (qH KP (by omega) (by have:=HL3.o.size;omega))).drew)
 have HKY:=hide (dJ K0.o LY.o K0.o.size)
 have Dc:=hide (HB1.o.below LY.o (by have:=HXS.o;omega))
 have CX:=hide (HB2.o.below LY.o (by have:=HXS.o;omega))
 have HN1:Hid (¬(w.heap.size+1≤p∧p<w.heap.size+1+1)):=hide (by have:=HXS.o;omega)
 have HN2:Hid (¬(w.heap.size+1+1≤p∧p<w.heap.size+1+1+1)):=hide (by have:=HXS.o;omega)
 have CF:∀W:World,MB W p gd' cd' ga' ca' g16 c16 g6 c26 {(sd.dB c.r) with st:=c.st}→W.cell? ⟨p,11,none⟩=some (iv sd.f.v)∧W.cell? ⟨p,12,none⟩=some (iv sd.f.pc)∧W.cell? ⟨p,13,none⟩=some (iv sd.f.ad)∧W.cell? ⟨p,14,none⟩=some (iv sd.f.wo)∧W.cell? ⟨p,15,none⟩=some (.bool sd.f.wr):=fun W h=>by have z:=yO h;exact z
 have SY:=CF _ HMY.o
 have hyz:X.heap.size≤Y.drew.heap.size:=LY.o.size
 clear KP MY
 go_region_held3 (fun w'=>w'.cell? ⟨p,11,none⟩=some (iv sd.f.v)∧w'.cell? ⟨p,12,none⟩=some (iv sd.f.pc)∧w'.cell? ⟨p,13,none⟩=some (iv sd.f.ad)∧w'.cell? ⟨p,14,none⟩=some (iv sd.f.wo)∧w'.cell? ⟨p,15,none⟩=some (.bool sd.f.wr)) (first|with_reducible exact SY|with_reducible exact S4|with_reducible exact CF _ (HM4.o.pO HN1.o _ _ _ _ _ _ _ _ _ _ _ _)|with_reducible exact CF _ ((HM4.o.pO HN1.o _ _ _ _ _ _ _ _ _ _ _ _).Dv HN2.o _ _ _ _ _)|go_keep) (first|(go_at_call 71;refine (zK _ p gd' cd' ga' ca' g16 c16 g6 c26 {(sd.dB c.r) with st:=c.st} HMY.o (HYd.o.ai KDY.o) (HYa.o.ai KDY.o) (HYb.o.ai KDY.o) (HYl.o.ai KDY.o) h4 h5 HGs.o.bx HGs.o.bl HGs.o.bm).mono ?_;unfold jE;rintro e9 W4 ⟨gd4,cd4,ga4,ca4,g14,c14,g24,c24,mid4,rfl,hc9,k9⟩;have HC:=hide hc9;have HM4:=hide (HMY.o.any k9);have S4:=CF _ HM4.o;have HK4:=hide (HKY.o.trans k9);have aN:=hide (Dc.o.af k9);have dI:=hide (CX.o.af k9);have hs4:=dI.o.lt;clear hc9 k9;have o0:=aN.o.cell (i:=0) rfl;have of0:=aN.o.frozen 0;have o1:=aN.o.cell (i:=1) rfl;have of1:=aN.o.frozen 1;have o2:=aN.o.cell (i:=2) rfl;have of2:=aN.o.frozen 2;have o3:=aN.o.cell (i:=3) rfl;have of3:=aN.o.frozen 3;have o4:=aN.o.cell (i:=4) rfl;have of4:=aN.o.frozen 4;have o5:=aN.o.cell (i:=5) rfl;have of5:=aN.o.frozen 5;have o6:=aN.o.cell (i:=6) rfl;have of6:=aN.o.frozen 6;have o7:=aN.o.cell (i:=7) rfl;have of7:=aN.o.frozen 7;have o8:=aN.o.cell (i:=8) rfl;have of8:=aN.o.frozen 8;have o9:=aN.o.cell (i:=9) rfl;have of9:=aN.o.frozen 9;have o10:=aN.o.cell (i:=10) rfl;have of10:=aN.o.frozen 10;have o11:=aN.o.cell (i:=11) rfl;have of11:=aN.o.frozen 11;have y0:=dI.o.cell (i:=0) rfl;have yf0:=dI.o.frozen 0;have y1:=dI.o.cell (i:=1) rfl;have yf1:=dI.o.frozen 1;have y2:=dI.o.cell (i:=2) rfl;have yf2:=dI.o.frozen 2;have y3:=dI.o.cell (i:=3) rfl;have yf3:=dI.o.frozen 3;have y4:=dI.o.cell (i:=4) rfl;have yf4:=dI.o.frozen 4))
 go_wp2_with fail
 have hxs:=HXS.o
 refine bodyPost_ret (v:=.tuple #[.agg (jE (Pl.au c) gd4 cd4 ga4 ca4 g14 c14 g24 c24),.agg (ftC (Pl.dh c))]) ?_ rfl ⟨gd4,cd4,ga4,ca4,g14,c14,g24,c24,mid4,rfl,?co,?kw⟩
 case co=>
  rw [EC.o]
  refine HC.o.xm (x:=w.heap.size+1) (y:=w.heap.size+3) (by omega) (by omega) ?_
  repeat (first|with_reducible exact Kept.refl _ _ _|refine ag ?_ _ _ _ (.inl (by omega)))
 case kw=>repeat (first|with_reducible exact HK4.o|refine ag ?_ _ _ _ (.inr (by omega)))
 rw [iD rfl,EC.o,EF.o];go_simp;exact ⟨rfl,rfl⟩
theorem V3 (w:World) (c:Pl.Cp) (a b e q:Option Addr) (ca cb ce cq:Nat) (ha:aJ w a c.r.xs) (hb:aJ w b c.r.ys) (he:aJ w e c.bx) (hq:aJ w q c.bl) (hok:Pl.ik c=true) (hl:c.bl.length=5*c.bm) :
  Calls prog 43 #[.agg #[.slice a 4 ca,.slice b 4 cb,iv c.r.o,iv c.r.p,iv c.r.f,iv c.r.m,.bool c.r.s,.bool c.r.t,.slice e 512 ce,.slice q c.bm cq,.bool c.st,.bool c.ha]] w fun r w'=>∃gd cd ga cA g1 c1 g2 c2 mid:Nat,r=.returned (.tuple #[.agg (jE (Pl.au c) gd cd ga cA g1 c1 g2 c2),.agg (ftC (Pl.dh c))])∧CO w' w.heap.size mid (Pl.au c) gd ga g1 g2 c2∧Kept 0 0 w w':=by
 cases hf:(Pl.Mc.ofC c).fetch.fine
 ·exact zG w c a b e q ca cb ce cq ha hb he hq hok hl hf
 ·cases hp:Pl.iW (Pl.Mc.ofC c).az
  ·cases hfs:(((Pl.Mc.ofC c).fetch.aK (((Pl.Mc.ofC c).r.p+2*(Pl.Mc.ofC c).bH)%65536)).doI (Pl.Mc.ofC c).az (Pl.Mc.ofC c).r.p).fine
   ·exact Fg w c a b e q ca cb ce cq ha hb he hq hok hl hf hp hfs
   ·exact Jk w c a b e q ca cb ce cq ha hb he hq hok hl hf hp hfs
  ·cases hs:(Pl.Mc.ofC c).fetch.r.s
   ·exact BB w c a b e q ca cb ce cq ha hb he hq hok hl hf hp hs
   ·cases hfs:(((Pl.Mc.ofC c).fetch.aK (((Pl.Mc.ofC c).r.p+2*(Pl.Mc.ofC c).bH)%65536)).doI (Pl.Mc.ofC c).az (Pl.Mc.ofC c).r.p).fine
    ·exact Bz w c a b e q ca cb ce cq ha hb he hq hok hl hf hp hs hfs
    ·exact Ff w c a b e q ca cb ce cq ha hb he hq hok hl hf hp hs hfs
theorem pz (w:World) (c:Pl.Cp) (a b e q:Option Addr) (ca cb ce cq:Nat) (ha:aJ w a c.r.xs) (hb:aJ w b c.r.ys) (he:aJ w e c.bx) (hq:aJ w q c.bl) (lx:c.r.xs.length≤2000000) (ly:c.r.ys.length≤2000000) (lb:c.bx.length≤2000000) (ll:c.bl.length=5*c.bm) (lm:c.bm≤2000000) :
  Calls prog 26 #[.agg #[.slice a c.r.xs.length ca,.slice b c.r.ys.length cb,iv c.r.o,iv c.r.p,iv c.r.f,iv c.r.m,.bool c.r.s,.bool c.r.t,.slice e c.bx.length ce,.slice q c.bm cq,.bool c.st,.bool c.ha]] w fun r w'=>r=.returned (.bool (Pl.ik c))∧Kept 0 0 w w':=by
 have K0:=hide (kept_alloc w (.cells #[.slice a c.r.xs.length ca,.slice b c.r.ys.length cb,iv c.r.o,iv c.r.p,iv c.r.f,iv c.r.m,.bool c.r.s,.bool c.r.t,.slice e c.bx.length ce,.slice q c.bm cq,.bool c.st,.bool c.ha] 36))
 have BA:=Blk.new w #[.slice a c.r.xs.length ca,.slice b c.r.ys.length cb,iv c.r.o,iv c.r.p,iv c.r.f,iv c.r.m,.bool c.r.s,.bool c.r.t,.slice e c.bx.length ce,.slice q c.bm cq,.bool c.st,.bool c.ha] 36
 obtain ⟨X,hX⟩:∃X:World,w.alloc (.cells #[.slice a c.r.xs.length ca,.slice b c.r.ys.length cb,iv c.r.o,iv c.r.p,iv c.r.f,iv c.r.m,.bool c.r.s,.bool c.r.t,.slice e c.bx.length ce,.slice q c.bm cq,.bool c.st,.bool c.ha] 36)=X:=⟨_,rfl⟩
 rw [hX] at K0 BA
 have HBA:=hide BA
 have HA:=hide (ha.ai K0.o)
 have HB:=hide (hb.ai K0.o)
 have HE:=hide (he.ai K0.o)
 have HQ:=hide (hq.ai K0.o)
 clear BA ha hb he hq
 have i0:=HBA.o.cell (i:=0) rfl
 have i1:=HBA.o.cell (i:=1) rfl
 have i2:=HBA.o.cell (i:=2) rfl
 have i3:=HBA.o.cell (i:=3) rfl
 have i4:=HBA.o.cell (i:=4) rfl
 have i5:=HBA.o.cell (i:=5) rfl
 have i6:=HBA.o.cell (i:=6) rfl
 have i7:=HBA.o.cell (i:=7) rfl
 have i8:=HBA.o.cell (i:=8) rfl
 have i9:=HBA.o.cell (i:=9) rfl
 have i10:=HBA.o.cell (i:=10) rfl
 have i11:=HBA.o.cell (i:=11) rfl
 cases h1:Pl.sW c.r
 ·go_enter func26,ntmps26
  go_wp2_with (first|(go_at_call 48;refine (kL _ c.r a b ca cb HA.o HB.o lx ly).mono ?_;rintro e9 W ⟨rfl,k9⟩;rw [h1];have HK1:=hide k9;have HB1:=hide (HBA.o.af k9);have HE1:=hide (HE.o.ai k9);have HQ1:=hide (HQ.o.ai k9);clear k9 i0 i1 i2 i3 i4 i5 i6 i7 i8 i9 i10 i11;have i0:=HB1.o.cell (i:=0) rfl;have i1:=HB1.o.cell (i:=1) rfl;have i2:=HB1.o.cell (i:=2) rfl;have i3:=HB1.o.cell (i:=3) rfl;have i4:=HB1.o.cell (i:=4) rfl;have i5:=HB1.o.cell (i:=5) rfl;have i6:=HB1.o.cell (i:=6) rfl;have i7:=HB1.o.cell (i:=7) rfl;have i8:=HB1.o.cell (i:=8) rfl;have i9:=HB1.o.cell (i:=9) rfl;have i10:=HB1.o.cell (i:=10) rfl;have i11:=HB1.o.cell (i:=11) rfl))
  go_ret
  exact ⟨rB (by unfold Pl.ik;simp [h1]),K0.o.trans HK1.o⟩
 ·cases h2:Pl.fK c.bx c.bl c.bm
  ·go_enter func26,ntmps26
   go_wp2_with (first|(go_at_call 49;have z9:=HB1;refine (pF _ e q ce cq c.bm c.bx c.bl HE1.o HQ1.o lb ll lm).mono ?_;rintro e9 W2 ⟨rfl,k9⟩;rw [h2];have HK2:=hide k9;have HB2:=hide (HB1.o.af k9);clear k9 i0 i1 i2 i3 i4 i5 i6 i7 i8 i9 i10 i11;have i0:=HB2.o.cell (i:=0) rfl;have i1:=HB2.o.cell (i:=1) rfl;have i2:=HB2.o.cell (i:=2) rfl;have i3:=HB2.o.cell (i:=3) rfl;have i4:=HB2.o.cell (i:=4) rfl;have i5:=HB2.o.cell (i:=5) rfl;have i6:=HB2.o.cell (i:=6) rfl;have i7:=HB2.o.cell (i:=7) rfl;have i8:=HB2.o.cell (i:=8) rfl;have i9:=HB2.o.cell (i:=9) rfl;have i10:=HB2.o.cell (i:=10) rfl;have i11:=HB2.o.cell (i:=11) rfl)|(go_at_call 48;refine (kL _ c.r a b ca cb HA.o HB.o lx ly).mono ?_;rintro e9 W ⟨rfl,k9⟩;rw [h1];have HK1:=hide k9;have HB1:=hide (HBA.o.af k9);have HE1:=hide (HE.o.ai k9);have HQ1:=hide (HQ.o.ai k9);clear k9 i0 i1 i2 i3 i4 i5 i6 i7 i8 i9 i10 i11;have i0:=HB1.o.cell (i:=0) rfl;have i1:=HB1.o.cell (i:=1) rfl;have i2:=HB1.o.cell (i:=2) rfl;have i3:=HB1.o.cell (i:=3) rfl;have i4:=HB1.o.cell (i:=4) rfl;have i5:=HB1.o.cell (i:=5) rfl;have i6:=HB1.o.cell (i:=6) rfl;have i7:=HB1.o.cell (i:=7) rfl;have i8:=HB1.o.cell (i:=8) rfl;have i9:=HB1.o.cell (i:=9) rfl;have i10:=HB1.o.cell (i:=10) rfl;have i11:=HB1.o.cell (i:=11) rfl))
   go_ret
   exact ⟨rB (by unfold Pl.ik;simp [h1,h2]),(K0.o.trans HK1.o).trans HK2.o⟩
  ·rcases Bool.eq_false_or_eq_true c.st with h3|h3
   ·have H3:=hide h3
    rw [H3.o] at i10
    clear h3
    go_enter func26,ntmps26
    go_wp2_with (first|(go_at_call 49;have z9:=HB1;refine (pF _ e q ce cq c.bm c.bx c.bl HE1.o HQ1.o lb ll lm).mono ?_;rintro e9 W2 ⟨rfl,k9⟩;rw [h2];have HK2:=hide k9;have HB2:=hide (HB1.o.af k9);clear k9 i0 i1 i2 i3 i4 i5 i6 i7 i8 i9 i10 i11;have i0:=HB2.o.cell (i:=0) rfl;have i1:=HB2.o.cell (i:=1) rfl;have i2:=HB2.o.cell (i:=2) rfl;have i3:=HB2.o.cell (i:=3) rfl;have i4:=HB2.o.cell (i:=4) rfl;have i5:=HB2.o.cell (i:=5) rfl;have i6:=HB2.o.cell (i:=6) rfl;have i7:=HB2.o.cell (i:=7) rfl;have i8:=HB2.o.cell (i:=8) rfl;have i9:=HB2.o.cell (i:=9) rfl;have i10:=HB2.o.cell (i:=10) rfl;have i11:=HB2.o.cell (i:=11) rfl;rw [H3.o] at i10)|(go_at_call 48;refine (kL _ c.r a b ca cb HA.o HB.o lx ly).mono ?_;rintro e9 W ⟨rfl,k9⟩;rw [h1];have HK1:=hide k9;have HB1:=hide (HBA.o.af k9);have HE1:=hide (HE.o.ai k9);have HQ1:=hide (HQ.o.ai k9);clear k9 i0 i1 i2 i3 i4 i5 i6 i7 i8 i9 i10 i11;have i0:=HB1.o.cell (i:=0) rfl;have i1:=HB1.o.cell (i:=1) rfl;have i2:=HB1.o.cell (i:=2) rfl;have i3:=HB1.o.cell (i:=3) rfl;have i4:=HB1.o.cell (i:=4) rfl;have i5:=HB1.o.cell (i:=5) rfl;have i6:=HB1.o.cell (i:=6) rfl;have i7:=HB1.o.cell (i:=7) rfl;have i8:=HB1.o.cell (i:=8) rfl;have i9:=HB1.o.cell (i:=9) rfl;have i10:=HB1.o.cell (i:=10) rfl;have i11:=HB1.o.cell (i:=11) rfl;rw [H3.o] at i10))
    go_ret
    exact ⟨rB (by unfold Pl.ik;simp [h1,h2,H3.o]),(K0.o.trans HK1.o).trans HK2.o⟩
   ·have H3:=hide h3
    rw [H3.o] at i10
    clear h3
    go_enter func26,ntmps26
    go_wp2_with (first|(go_at_call 49;have z9:=HB1;refine (pF _ e q ce cq c.bm c.bx c.bl HE1.o HQ1.o lb ll lm).mono ?_;rintro e9 W2 ⟨rfl,k9⟩;rw [h2];have HK2:=hide k9;have HB2:=hide (HB1.o.af k9);clear k9 i0 i1 i2 i3 i4 i5 i6 i7 i8 i9 i10 i11;have i0:=HB2.o.cell (i:=0) rfl;have i1:=HB2.o.cell (i:=1) rfl;have i2:=HB2.o.cell (i:=2) rfl;have i3:=HB2.o.cell (i:=3) rfl;have i4:=HB2.o.cell (i:=4) rfl;have i5:=HB2.o.cell (i:=5) rfl;have i6:=HB2.o.cell (i:=6) rfl;have i7:=HB2.o.cell (i:=7) rfl;have i8:=HB2.o.cell (i:=8) rfl;have i9:=HB2.o.cell (i:=9) rfl;have i10:=HB2.o.cell (i:=10) rfl;have i11:=HB2.o.cell (i:=11) rfl;rw [H3.o] at i10)|(go_at_call 48;refine (kL _ c.r a b ca cb HA.o HB.o lx ly).mono ?_;rintro e9 W ⟨rfl,k9⟩;rw [h1];have HK1:=hide k9;have HB1:=hide (HBA.o.af k9);have HE1:=hide (HE.o.ai k9);have HQ1:=hide (HQ.o.ai k9);clear k9 i0 i1 i2 i3 i4 i5 i6 i7 i8 i9 i10 i11;have i0:=HB1.o.cell (i:=0) rfl;have i1:=HB1.o.cell (i:=1) rfl;have i2:=HB1.o.cell (i:=2) rfl;have i3:=HB1.o.cell (i:=3) rfl;have i4:=HB1.o.cell (i:=4) rfl;have i5:=HB1.o.cell (i:=5) rfl;have i6:=HB1.o.cell (i:=6) rfl;have i7:=HB1.o.cell (i:=7) rfl;have i8:=HB1.o.cell (i:=8) rfl;have i9:=HB1.o.cell (i:=9) rfl;have i10:=HB1.o.cell (i:=10) rfl;have i11:=HB1.o.cell (i:=11) rfl;rw [H3.o] at i10))
    go_ret
    exact ⟨rB (by unfold Pl.ik;simp [h1,h2,H3.o]),(K0.o.trans HK1.o).trans HK2.o⟩
def kJ (c:Pl.Cp) (a b e q:Option Addr) (ca cb ce cq:Nat):Array Value:=#[.slice a c.r.xs.length ca,.slice b c.r.ys.length cb,iv c.r.o,iv c.r.p,iv c.r.f,iv c.r.m,.bool c.r.s,.bool c.r.t,.slice e c.bx.length ce,.slice q c.bm cq,.bool c.st,.bool c.ha]
structure lC (w:World) (base:Nat) (c:Pl.Cp) (a b e q:Option Addr):Prop where
 d:bg w base w.heap.size a c.r.xs
 a':bg w base w.heap.size b c.r.ys
 b':bg w base w.heap.size e c.bx
 l:bg w base w.heap.size q c.bl
 n1:∀g,blk a=some g→blk b≠some g
 n2:∀g,blk a=some g→blk e≠some g
 n3:∀g,blk a=some g→blk q≠some g
 n4:∀g,blk b=some g→blk e≠some g
 n5:∀g,blk b=some g→blk q≠some g
 n6:∀g,blk e=some g→blk q≠some g
theorem qj (w:World) (base:Nat):lC w base Pl.Ae none none none none:=
 ⟨.inl ⟨rfl,rfl⟩,.inl ⟨rfl,rfl⟩,.inl ⟨rfl,rfl⟩,.inl ⟨rfl,rfl⟩,by simp [blk],by simp [blk],by simp [blk],by simp [blk],by simp [blk],by simp [blk]⟩
theorem Pl.GM.step {c:Pl.Cp} (h:Pl.ik c=true) (hl:c.bl.length=5*c.bm):Pl.GM (Pl.stepM c):=by
 have g:Pl.GM (Pl.Mc.ofC c):=Pl.GM.of h hl c.st
 have gf:=Pl.GM.fetch g
 have h1:Pl.GM (Pl.Mc.ofC c).s1:=by
  unfold Pl.Mc.s1
  cases ((Pl.Mc.ofC c).fetch.fine&&(Pl.iW (Pl.Mc.ofC c).az && !(Pl.Mc.ofC c).fetch.r.s))
  ·exact gf
  ·exact gf.ft _
 unfold Pl.stepM Pl.Mc.s2
 cases hs:(Pl.Mc.ofC c).s1.fine
 ·exact h1
 ·have hf:(Pl.Mc.ofC c).fetch.fine=true:=by
   cases q:(Pl.Mc.ofC c).fetch.fine
   ·unfold Pl.Mc.s1 at hs;rw [q] at hs;simp only [Bool.false_and,cond_false] at hs;rw [q] at hs;exact hs
   ·rfl
  exact (h1.aK (by omega) (by omega)).doI (Pl.ng hf).1 _
theorem Pl.Ht {c:Pl.Cp} (h:Pl.ik c=true) (hl:c.bl.length=5*c.bm):(Pl.au c).r.xs.length=4∧(Pl.au c).r.ys.length=4∧(Pl.au c).bx.length=512:=by
 have g:=Pl.GM.of h hl c.st
 have gs:=Pl.GM.step h hl
 unfold Pl.au
 cases (Pl.stepM c).fine
 ·exact ⟨g.g.d4,g.g.a4,gs.bx⟩
 ·exact ⟨gs.g.d4,gs.g.a4,gs.bx⟩
def Pl.dM:Nat→Nat→Pl.Cp→Pl.Cp × Nat × Pl.Ft
 | 0,d,c=>(c,d,Pl.aI)
 | n+1,d,c=>if c.st=true∨c.ha=true then (c,d,Pl.aI) else if (Pl.dh c).v≠0 then (Pl.au c,d,Pl.dh c) else Pl.dM n (d+1) (Pl.au c)
theorem Pl.Ak {xs:List Int} (h:∀i,i<xs.length→0≤el xs i∧el xs i≤65535):xs.all Pl.aT=true:=by
 rw [List.all_eq_true]
 intro x hx
 obtain ⟨i,hi,rfl⟩:=List.getElem_of_mem hx
 have:=h i hi
 simp [el,List.getElem?_eq_getElem hi] at this
 simp [Pl.aT,Pl.within]
 omega
theorem Pl.Dq {r:Pl.Rg} (g:Pl.Good r) (p0:0≤r.p) (p1:r.p≤65535):Pl.sW r=true:=by
 have a1:=Pl.Ak (xs:=r.xs) (fun i hi=>g.dw i (by have:=g.d4;omega))
 have a2:=Pl.Ak (xs:=r.ys) (fun i hi=>g.aw i (by have:=g.a4;omega))
 have h1:=g.d4;have h2:=g.a4;have h3:=g.o0;have h4:=g.o1;have h5:=g.f0;have h6:=g.f1;have h7:=g.m0;have h8:=g.m1
 simp only [Pl.sW,Pl.jc,a1,a2,Pl.aT,Pl.within,Bool.true_and,Bool.and_eq_true,decide_eq_true_eq]
 omega
theorem Pl.sO {c:Pl.Cp} (h:Pl.ik c=true) (hl:c.bl.length=5*c.bm):Pl.ik (Pl.au c)=true∧(Pl.au c).bl.length=5*(Pl.au c).bm:=by
 have g:=Pl.GM.of h hl c.st
 have gs:=Pl.GM.step h hl
 have hb:∀(r:Pl.Rg) (st:Bool),Pl.sW r=true→Pl.ik ⟨r,(Pl.stepM c).bx,(Pl.stepM c).bl,(Pl.stepM c).bm,st,false⟩=true:=by
  intro r st hr
  simp [Pl.ik,hr,Pl.fK,gs.ac,gs.bx,gs.ok,gs.bm]
 unfold Pl.au
 cases (Pl.stepM c).fine
 ·exact ⟨hb _ _ (Pl.Dq g.g g.p0 g.p1),gs.bl⟩
 ·exact ⟨hb _ _ (Pl.Dq gs.g gs.p0 gs.p1),gs.bl⟩
def Pl.iP (c:Pl.Cp) (n:Int):Bool:=Pl.ik c&&Pl.within n 0 60
def Pl.ssC (c:Pl.Cp) (n:Int):Pl.Cp:=bif Pl.iP c n then (Pl.dM n.toNat 0 c).1 else Pl.Ae
def Pl.ssN (c:Pl.Cp) (n:Int):Int:=bif Pl.iP c n then ((Pl.dM n.toNat 0 c).2.1:Int) else 0
def Pl.ssF (c:Pl.Cp) (n:Int):Pl.Ft:=bif Pl.iP c n then (Pl.dM n.toNat 0 c).2.2 else Pl.aI
theorem aU {fn:Func} {p u1 q u2:Tmp} {ty tz:TypeId} (h:fn.results=#[.cell p ty,.tmp u1,.cell q tz,.tmp u2]) (tmps:Array Value) (P:Program) (w:World) :
  (results fn tmps).run P w=((asAddr (tmps.getD p undef)).run P w).andThen fun a w₁=>((loadVar ty a).run P w₁).andThen fun v w₂=>((asAddr (tmps.getD q undef)).run P w₂).andThen fun b w₃=>((loadVar tz b).run P w₃).andThen fun y w₄=>.ok (.tuple #[v,tmps.getD u1 undef,y,tmps.getD u2 undef]) w₄:=by
 simp only [results,h]
 simp [Sem.run_bind,Result.andThen]
structure CpO (w:World) (base O:Nat) (c:Pl.Cp) (gd ga g1 g2:Nat):Prop where
 d:Own w gd c.r.xs
 a:Own w ga c.r.ys
 b:Own w g1 c.bx
 l:Own w g2 c.bl
 d0:base≤gd
 d1:gd<w.heap.size
 a0:base≤ga
 a1:ga<w.heap.size
 b0:base≤g1
 b1:g1<w.heap.size
 l0:base≤g2
 l1:g2<w.heap.size
 dO:gd≠O
 aO:ga≠O
 bO:g1≠O
 lO:g2≠O
 n1:gd≠ga
 n2:gd≠g1
 n3:gd≠g2
 n4:ga≠g1
 n5:ga≠g2
 n6:g1≠g2
theorem CO.cpO {w:World} {lo mid gd ga g1 g2 c2 base O:Nat} {c:Pl.Cp} (h:CO w lo mid c gd ga g1 g2 c2) (hb:base≤lo) (hO:O<lo∨w.heap.size≤O):CpO w base O c gd ga g1 g2:=by
 have:=h.d0;have:=h.d1;have:=h.a0;have:=h.a1;have:=h.da;have:=h.b0;have:=h.b1;have:=h.bl
 have q:=h.l.lt g2 rfl
 exact ⟨h.d,h.a,h.b,gX h.l,by omega,by omega,by omega,by omega,by omega,by omega,by omega,by omega,by omega,by omega,by omega,by omega,by omega,by omega,by omega,by omega,by omega,by omega⟩
theorem CpO.kept {w w':World} {base O lo hi gd ga g1 g2:Nat} {c:Pl.Cp} (h:CpO w base O c gd ga g1 g2) (k:Kept lo hi w w') (hh:∀i,lo≤i→i<hi→i<base∨i=O):CpO w' base O c gd ga g1 g2:=by
 have:=h.d0;have:=h.a0;have:=h.b0;have:=h.l0;have:=k.size
 have h1:=h.d1;have h2:=h.a1;have h3:=h.b1;have h4:=h.l1
 have q:∀g,base≤g→g≠O→¬(lo≤g∧g<hi):=fun g a b c=>by have:=hh g c.1 c.2;omega
 exact ⟨h.d.ai k (q _ h.d0 h.dO),h.a.ai k (q _ h.a0 h.aO),h.b.ai k (q _ h.b0 h.bO),h.l.ai k (q _ h.l0 h.lO),h.d0,by omega,h.a0,by omega,h.b0,by omega,h.l0,by omega,h.dO,h.aO,h.bO,h.lO,h.n1,h.n2,h.n3,h.n4,h.n5,h.n6⟩
theorem CpO.Ef {w:World} {base O gd ga g1 g2 lo:Nat} {c:Pl.Cp} (h:CpO w base O c gd ga g1 g2) (hl:lo≤base):lC w lo c (some ⟨gd,0,none⟩) (some ⟨ga,0,none⟩) (some ⟨g1,0,none⟩) (some ⟨g2,0,none⟩):=by
 have:=h.d0;have:=h.a0;have:=h.b0;have:=h.l0
 refine ⟨.inr ⟨gd,rfl,by omega,h.d1,h.d⟩,.inr ⟨ga,rfl,by omega,h.a1,h.a⟩,.inr ⟨g1,rfl,by omega,h.b1,h.b⟩,.inr ⟨g2,rfl,by omega,h.l1,h.l⟩,?_,?_,?_,?_,?_,?_⟩
 ·intro g e1 e2;simp [blk] at e1 e2;have:=h.n1;omega
 ·intro g e1 e2;simp [blk] at e1 e2;have:=h.n2;omega
 ·intro g e1 e2;simp [blk] at e1 e2;have:=h.n3;omega
 ·intro g e1 e2;simp [blk] at e1 e2;have:=h.n4;omega
 ·intro g e1 e2;simp [blk] at e1 e2;have:=h.n5;omega
 ·intro g e1 e2;simp [blk] at e1 e2;have:=h.n6;omega
theorem sQ (w:World) (c:Pl.Cp) (n:Int) (a b e q:Option Addr) (ca cb ce cq:Nat) (ha:aJ w a c.r.xs) (hb:aJ w b c.r.ys) (he:aJ w e c.bx) (hq:aJ w q c.bl) (lx:c.r.xs.length≤2000000) (ly:c.r.ys.length≤2000000) (lb:c.bx.length≤2000000) (ll:c.bl.length=5*c.bm) (lm:c.bm≤2000000) (h1:Pl.ik c=false) (h2:True) :
  Calls prog 22 #[.agg (cpA c a b e q ca cb ce cq),iv n] w fun r w'=>∃(a' b' e' q':Option Addr) (ca' cb' ce' cq':Nat),r=.returned (.tuple #[.agg (kJ (Pl.ssC c n) a' b' e' q' ca' cb' ce' cq'),iv (Pl.ssN c n),.agg (ftC (Pl.ssF c n)),.bool (Pl.iP c n)])∧lC w' w.heap.size (Pl.ssC c n) a' b' e' q'∧Kept 0 0 w w':=by
 have EO:Hid (Pl.iP c n=false):=hide (by unfold Pl.iP;rw [h1];simp)
 have EC:Hid (Pl.ssC c n=Pl.Ae):=hide (by unfold Pl.ssC;rw [EO.o];rfl)
 have EN:Hid (Pl.ssN c n=0):=hide (by unfold Pl.ssN;rw [EO.o];rfl)
 have EF:Hid (Pl.ssF c n=Pl.aI):=hide (by unfold Pl.ssF;rw [EO.o];rfl)
 have H1:=hide h1
 have H2:=hide h2
 clear h1 h2
 have K0:=hide (ah (ah (kept_alloc w (.cells (cpA c a b e q ca cb ce cq) 36)) (.cells cpZ 36)) (.cells ftZ 49))
 have B0:=((Blk.new w (cpA c a b e q ca cb ce cq) 36).alloc (.cells cpZ 36)).alloc (.cells ftZ 49)
 have B1:=(Blk.new (w.alloc (.cells (cpA c a b e q ca cb ce cq) 36)) cpZ 36).alloc (.cells ftZ 49)
 have B2:=Blk.new ((w.alloc (.cells (cpA c a b e q ca cb ce cq) 36)).alloc (.cells cpZ 36)) ftZ 49
 simp only [World.size_alloc] at B1 B2
 obtain ⟨X0,hX⟩:∃X0:World,((w.alloc (.cells (cpA c a b e q ca cb ce cq) 36)).alloc (.cells cpZ 36)).alloc (.cells ftZ 49)=X0:=⟨_,rfl⟩
 rw [hX] at K0 B0 B1 B2
 have HXS:Hid (X0.heap.size=w.heap.size+3):=hide (by rw [←hX];simp)
 have HB0:=hide B0
 have HB1:=hide B1
 have HB2:=hide B2
 have HA:=hide (ha.ai K0.o)
 have HB:=hide (hb.ai K0.o)
 have HE:=hide (he.ai K0.o)
 have HQ:=hide (hq.ai K0.o)
 clear B0 B1 B2 ha hb he hq
 have i0:=HB0.o.all
 go_enter func22,ntmps22
 go_wp2_with fail
 refine (pz _ c a b e q ca cb ce cq HA.o HB.o HE.o HQ.o lx ly lb ll lm).mono ?_
 rintro e9 W ⟨rfl,k9⟩
 rw [H1.o]
 have HK1:=hide (K0.o.trans k9)
 have HI1:=hide (HB0.o.af k9)
 have HR1:=hide (HB1.o.af k9)
 have HF1:=hide (HB2.o.af k9)
 have hsW:=k9.size
 have HA1:=hide (HA.o.ai k9)
 have UU:=hide (HB.o.ai k9)
 have HE1:=hide (HE.o.ai k9)
 have HQ1:=hide (HQ.o.ai k9)
 clear k9 i0
 have o0:=HR1.o.all
 have of0:=HR1.o.fz
 have y0:=HF1.o.all
 have yf0:=HF1.o.fz
 go_wp2_with fail
 have hxs:=HXS.o
 refine bodyPost_ret (v:=.tuple #[.agg (kJ (Pl.ssC c n) none none none none 0 0 0 0),iv (Pl.ssN c n),.agg (ftC (Pl.ssF c n)),.bool (Pl.iP c n)]) ?_ rfl ⟨none,none,none,none,0,0,0,0,rfl,by rw [EC.o];exact qj _ _,?kw⟩
 case kw=>repeat (first|with_reducible exact HK1.o|refine ag ?_ _ _ _ (.inr (by omega)))
 rw [aU rfl,EC.o,EN.o,EF.o,EO.o];go_simp;first|rfl|exact ⟨rfl,rfl⟩
theorem rC (w:World) (c:Pl.Cp) (n:Int) (a b e q:Option Addr) (ca cb ce cq:Nat) (ha:aJ w a c.r.xs) (hb:aJ w b c.r.ys) (he:aJ w e c.bx) (hq:aJ w q c.bl) (lx:c.r.xs.length≤2000000) (ly:c.r.ys.length≤2000000) (lb:c.bx.length≤2000000) (ll:c.bl.length=5*c.bm) (lm:c.bm≤2000000) (h1:Pl.ik c=true) (h2:Pl.within n 0 60=false) :
  Calls prog 22 #[.agg (cpA c a b e q ca cb ce cq),iv n] w fun r w'=>∃(a' b' e' q':Option Addr) (ca' cb' ce' cq':Nat),r=.returned (.tuple #[.agg (kJ (Pl.ssC c n) a' b' e' q' ca' cb' ce' cq'),iv (Pl.ssN c n),.agg (ftC (Pl.ssF c n)),.bool (Pl.iP c n)])∧lC w' w.heap.size (Pl.ssC c n) a' b' e' q'∧Kept 0 0 w w':=by
 have EO:Hid (Pl.iP c n=false):=hide (by unfold Pl.iP;rw [h1,h2];simp)
 have EC:Hid (Pl.ssC c n=Pl.Ae):=hide (by unfold Pl.ssC;rw [EO.o];rfl)
 have EN:Hid (Pl.ssN c n=0):=hide (by unfold Pl.ssN;rw [EO.o];rfl)
 have EF:Hid (Pl.ssF c n=Pl.aI):=hide (by unfold Pl.ssF;rw [EO.o];rfl)
 have H1:=hide h1
 have H2:Hid ((decide (0≤n)&&decide (n≤60))=false):=hide h2
 clear h1 h2
 have K0:=hide (ah (ah (kept_alloc w (.cells (cpA c a b e q ca cb ce cq) 36)) (.cells cpZ 36)) (.cells ftZ 49))
 have B0:=((Blk.new w (cpA c a b e q ca cb ce cq) 36).alloc (.cells cpZ 36)).alloc (.cells ftZ 49)
 have B1:=(Blk.new (w.alloc (.cells (cpA c a b e q ca cb ce cq) 36)) cpZ 36).alloc (.cells ftZ 49)
 have B2:=Blk.new ((w.alloc (.cells (cpA c a b e q ca cb ce cq) 36)).alloc (.cells cpZ 36)) ftZ 49
 simp only [World.size_alloc] at B1 B2
 obtain ⟨X0,hX⟩:∃X0:World,((w.alloc (.cells (cpA c a b e q ca cb ce cq) 36)).alloc (.cells cpZ 36)).alloc (.cells ftZ 49)=X0:=⟨_,rfl⟩
 rw [hX] at K0 B0 B1 B2
 have HXS:Hid (X0.heap.size=w.heap.size+3):=hide (by rw [←hX];simp)
 have HB0:=hide B0
 have HB1:=hide B1
 have HB2:=hide B2
 have HA:=hide (ha.ai K0.o)
 have HB:=hide (hb.ai K0.o)
 have HE:=hide (he.ai K0.o)
 have HQ:=hide (hq.ai K0.o)
 clear B0 B1 B2 ha hb he hq
 have i0:=HB0.o.all
 go_enter func22,ntmps22
 go_wp2_with fail
 refine (pz _ c a b e q ca cb ce cq HA.o HB.o HE.o HQ.o lx ly lb ll lm).mono ?_
 rintro e9 W ⟨rfl,k9⟩
 rw [H1.o]
 have HK1:=hide (K0.o.trans k9)
 have HI1:=hide (HB0.o.af k9)
 have HR1:=hide (HB1.o.af k9)
 have HF1:=hide (HB2.o.af k9)
 have hsW:=k9.size
 have HA1:=hide (HA.o.ai k9)
 have UU:=hide (HB.o.ai k9)
 have HE1:=hide (HE.o.ai k9)
 have HQ1:=hide (HQ.o.ai k9)
 clear k9 i0
 have o0:=HR1.o.all
 have of0:=HR1.o.fz
 have y0:=HF1.o.all
 have yf0:=HF1.o.fz
 go_wp2_with (go_at_call 40;refine st (dY _ _ _ _) ?_;rw [H2.o])
 have hxs:=HXS.o
 refine bodyPost_ret (v:=.tuple #[.agg (kJ (Pl.ssC c n) none none none none 0 0 0 0),iv (Pl.ssN c n),.agg (ftC (Pl.ssF c n)),.bool (Pl.iP c n)]) ?_ rfl ⟨none,none,none,none,0,0,0,0,rfl,by rw [EC.o];exact qj _ _,?kw⟩
 case kw=>repeat (first|with_reducible exact HK1.o|refine ag ?_ _ _ _ (.inr (by omega)))
 rw [aU rfl,EC.o,EN.o,EF.o,EO.o];go_simp;first|rfl|exact ⟨rfl,rfl⟩
theorem uw (w:World) (c:Pl.Cp) (n:Int) (a b e q:Option Addr) (ca cb ce cq:Nat) (ha:aJ w a c.r.xs) (hb:aJ w b c.r.ys) (he:aJ w e c.bx) (hq:aJ w q c.bl) (lx:c.r.xs.length≤2000000) (ly:c.r.ys.length≤2000000) (lb:c.bx.length≤2000000) (ll:c.bl.length=5*c.bm) (lm:c.bm≤2000000) (h1:Pl.ik c=true) (h2:Pl.within n 0 60=true) :
  Calls prog 22 #[.agg (cpA c a b e q ca cb ce cq),iv n] w fun r w'=>∃(a' b' e' q':Option Addr) (ca' cb' ce' cq':Nat),r=.returned (.tuple #[.agg (kJ (Pl.ssC c n) a' b' e' q' ca' cb' ce' cq'),iv (Pl.ssN c n),.agg (ftC (Pl.ssF c n)),.bool (Pl.iP c n)])∧lC w' w.heap.size (Pl.ssC c n) a' b' e' q'∧Kept 0 0 w w':=by
 have EO:Hid (Pl.iP c n=true):=hide (by unfold Pl.iP;rw [h1,h2];rfl)
 have EC:Hid (Pl.ssC c n=(Pl.dM n.toNat 0 c).1):=hide (by unfold Pl.ssC;rw [EO.o];rfl)
 have EN:Hid (Pl.ssN c n=((Pl.dM n.toNat 0 c).2.1:Int)):=hide (by unfold Pl.ssN;rw [EO.o];rfl)
 have EF:Hid (Pl.ssF c n=(Pl.dM n.toNat 0 c).2.2):=hide (by unfold Pl.ssF;rw [EO.o];rfl)
 have G:=Pl.GM.of h1 ll c.st
 have h4:=G.g.d4
 have h5:=G.g.a4
 have hbx:=G.bx
 have hbm:=G.bm
 have HOWN:∀(w9:World) (ra:aJ w9 a c.r.xs) (rb:aJ w9 b c.r.ys) (re:aJ w9 e c.bx) (rq:aJ w9 q c.bl),Calls prog 41 #[.agg (cpA c a b e q ca cb ce cq)] w9 fun r w'=>∃gd cd ga cA g1 c1 g2 c2 mid:Nat,r=.returned (.agg (jE c gd cd ga cA g1 c1 g2 c2))∧CO w' w9.heap.size mid c gd ga g1 g2 c2∧Kept 0 0 w9 w':=by
  intro w9 ra rb re rq
  have z:=Tj w9 c a b e q ca cb ce cq ra rb re rq h4 h5 hbx ll hbm
  try unfold cpA
  rw [h4,h5,hbx]
  exact z
 have H1:=hide h1
 have H2:Hid ((decide (0≤n)&&decide (n≤60))=true):=hide h2
 have hn:0≤n∧n≤60:=by simpa using H2.o
 obtain ⟨m,rfl⟩:∃m:Nat,n=(m:Int):=⟨n.toNat,by omega⟩
 have hm:m≤60:=by omega
 have HT:Hid ((m:Int).toNat=m):=hide (by simp)
 have HLL:=hide ll
 clear h1 h2 G h4 h5 hbx hbm hn
 have K0:=hide (ah (ah (kept_alloc w (.cells (cpA c a b e q ca cb ce cq) 36)) (.cells cpZ 36)) (.cells ftZ 49))
 have B0:=((Blk.new w (cpA c a b e q ca cb ce cq) 36).alloc (.cells cpZ 36)).alloc (.cells ftZ 49)
 have B1:=(Blk.new (w.alloc (.cells (cpA c a b e q ca cb ce cq) 36)) cpZ 36).alloc (.cells ftZ 49)
 have B2:=Blk.new ((w.alloc (.cells (cpA c a b e q ca cb ce cq) 36)).alloc (.cells cpZ 36)) ftZ 49
 simp only [World.size_alloc] at B1 B2
 obtain ⟨X0,hX⟩:∃X0:World,((w.alloc (.cells (cpA c a b e q ca cb ce cq) 36)).alloc (.cells cpZ 36)).alloc (.cells ftZ 49)=X0:=⟨_,rfl⟩
 rw [hX] at K0 B0 B1 B2
 have HXS:Hid (X0.heap.size=w.heap.size+3):=hide (by rw [←hX];simp)
 have HB0:=hide B0
 have HB1:=hide B1
 have HB2:=hide B2
 have HA:=hide (ha.ai K0.o)
 have HB:=hide (hb.ai K0.o)
 have HE:=hide (he.ai K0.o)
 have HQ:=hide (hq.ai K0.o)
 clear B0 B1 B2 ha hb he hq
 have i0:=HB0.o.all
 go_enter func22,ntmps22
 go_wp2_with fail
 refine (pz _ c a b e q ca cb ce cq HA.o HB.o HE.o HQ.o lx ly lb ll lm).mono ?_
 rintro e9 W ⟨rfl,k9⟩
 rw [H1.o]
 have HK1:=hide (K0.o.trans k9)
 have HI1:=hide (HB0.o.af k9)
 have HR1:=hide (HB1.o.af k9)
 have HF1:=hide (HB2.o.af k9)
 have hsW:=k9.size
 have HA1:=hide (HA.o.ai k9)
 have UU:=hide (HB.o.ai k9)
 have HE1:=hide (HE.o.ai k9)
 have HQ1:=hide (HQ.o.ai k9)
 clear k9 i0
 have i0:=HI1.o.all
 go_wp2_with (go_at_call 40;refine st (dY _ _ _ _) ?_;rw [H2.o])
 refine (HOWN _ HA1.o UU.o HE1.o HQ1.o).mono ?_
 unfold jE
 rintro e9 W1 ⟨gd,cd,ga,cA,g1,c1,g2,c2,mid,rfl,hc9,k9⟩
 have K2:=hide (HK1.o.trans k9)
 have HR2:=hide (HR1.o.af k9)
 have HF2:=hide (HF1.o.af k9)
 have hs1:=k9.size
 have KO:=kept_alloc W1 (.cells #[.slice (some ⟨gd,0,none⟩) 4 cd,.slice (some ⟨ga,0,none⟩) 4 cA,iv c.r.o,iv c.r.p,iv c.r.f,iv c.r.m,.bool c.r.s,.bool c.r.t,.slice (some ⟨g1,0,none⟩) 512 c1,.slice (some ⟨g2,0,none⟩) c.bm c2,.bool c.st,.bool c.ha] 36)
 have BO:=Blk.new W1 #[.slice (some ⟨gd,0,none⟩) 4 cd,.slice (some ⟨ga,0,none⟩) 4 cA,iv c.r.o,iv c.r.p,iv c.r.f,iv c.r.m,.bool c.r.s,.bool c.r.t,.slice (some ⟨g1,0,none⟩) 512 c1,.slice (some ⟨g2,0,none⟩) c.bm c2,.bool c.st,.bool c.ha] 36
 obtain ⟨Y,hY⟩:∃Y:World,W1.alloc (.cells #[.slice (some ⟨gd,0,none⟩) 4 cd,.slice (some ⟨ga,0,none⟩) 4 cA,iv c.r.o,iv c.r.p,iv c.r.f,iv c.r.m,.bool c.r.s,.bool c.r.t,.slice (some ⟨g1,0,none⟩) 512 c1,.slice (some ⟨g2,0,none⟩) c.bm c2,.bool c.st,.bool c.ha] 36)=Y:=⟨_,rfl⟩
 have szY:Y.heap.size=W1.heap.size+1:=by simp [←hY]
 rw [hY] at KO BO
 have hxs:=HXS.o
 have HC0:=hide ((hc9.cpO (base:=w.heap.size+3) (O:=W1.heap.size) (by omega) (.inr (Nat.le_refl _))).kept KO (by omega))
 have K3:=hide (K2.o.trans KO)
 have HR3:=hide (HR2.o.af KO)
 have HF3:=hide (HF2.o.af KO)
 have HO3:=hide BO
 clear hc9 k9 KO BO i0
 have o0:=HO3.o.cell (i:=0) rfl
 have o1:=HO3.o.cell (i:=1) rfl
 have o2:=HO3.o.cell (i:=2) rfl
 have o3:=HO3.o.cell (i:=3) rfl
 have o4:=HO3.o.cell (i:=4) rfl
 have o5:=HO3.o.cell (i:=5) rfl
 have o6:=HO3.o.cell (i:=6) rfl
 have o7:=HO3.o.cell (i:=7) rfl
 have o8:=HO3.o.cell (i:=8) rfl
 have o9:=HO3.o.cell (i:=9) rfl
 have o10:=HO3.o.cell (i:=10) rfl
 have o11:=HO3.o.cell (i:=11) rfl
 go_wp2_with fail
 clear hX hY o0 o1 o2 o3 o4 o5 o6 o7 o8 o9 o10 o11
 go_loopw [9] (fun j wr=>∃(k:Nat) (X:Pl.Cp) (gd cd ga cA g1 c1 g2 c2:Nat),k≤m∧j=iv (k:Int)∧Pl.ik X=true∧X.bl.length=5*X.bm∧Pl.dM m 0 c=Pl.dM (m-k) k X∧Blk wr W1.heap.size #[.slice (some ⟨gd,0,none⟩) 4 cd,.slice (some ⟨ga,0,none⟩) 4 cA,iv X.r.o,iv X.r.p,iv X.r.f,iv X.r.m,.bool X.r.s,.bool X.r.t,.slice (some ⟨g1,0,none⟩) 512 c1,.slice (some ⟨g2,0,none⟩) X.bm c2,.bool X.st,.bool X.ha] 36∧CpO wr (w.heap.size+3) W1.heap.size X gd ga g1 g2∧Blk wr (w.heap.size+1) cpZ 36∧Blk wr (w.heap.size+2) ftZ 49∧Kept 0 0 w wr∧W1.heap.size<wr.heap.size) (fun j _=>m-(intOf j).toNat)
 case atStart=>exact ⟨0,c,gd,cd,ga,cA,g1,c1,g2,c2,Nat.zero_le _,rfl,H1.o,HLL.o,rfl,HO3.o,HC0.o,HR3.o,HF3.o,K3.o,by omega⟩
 case round=>
  obtain ⟨k,X,gd,cd,ga,cA,g1,c1,g2,c2,hk,rfl,hok,hbl,hrec,BO,hC,BR,BF,hK,hW⟩:=hrel
  have HBO:=hide BO
  have HBR:=hide BR
  have HBF:=hide BF
  have HK:=hide hK
  have HC:=hide hC
  have wX:=hide hrec
  have HOK:=hide hok
  have HBL:=hide hbl
  have G:=Pl.GM.of hok hbl X.st
  have LN:Hid (X.r.xs.length=4∧X.r.ys.length=4∧X.bx.length=512):=hide ⟨G.g.d4,G.g.a4,G.bx⟩
  have hRO:w.heap.size+2<W1.heap.size:=by omega
  clear BO BR BF hK hC hrec hok hbl G
  by_cases hlt:k<m
  ·have hj:m-k=(m-k-1)+1:=by omega
   rcases Bool.eq_false_or_eq_true X.st with hst|hst
   ·have RES:Hid (Pl.ssC c m=X∧Pl.ssN c m=(k:Int)∧Pl.ssF c m=Pl.aI):=hide (by rw [EC.o,EN.o,EF.o,HT.o,wX.o];rw [hj];simp [Pl.dM,hst])
    have HST:=hide hst
    clear hst
    have o0:=HBO.o.cell (i:=0) rfl
    have o1:=HBO.o.cell (i:=1) rfl
    have o2:=HBO.o.cell (i:=2) rfl
    have o3:=HBO.o.cell (i:=3) rfl
    have o4:=HBO.o.cell (i:=4) rfl
    have o5:=HBO.o.cell (i:=5) rfl
    have o6:=HBO.o.cell (i:=6) rfl
    have o7:=HBO.o.cell (i:=7) rfl
    have o8:=HBO.o.cell (i:=8) rfl
    have o9:=HBO.o.cell (i:=9) rfl
    have o10:=HBO.o.cell (i:=10) rfl
    rw [HST.o] at o10
    have o11:=HBO.o.cell (i:=11) rfl
    have r0:=HBR.o.cell (i:=0) rfl
    have r1:=HBR.o.cell (i:=1) rfl
    have r2:=HBR.o.cell (i:=2) rfl
    have r3:=HBR.o.cell (i:=3) rfl
    have r4:=HBR.o.cell (i:=4) rfl
    have r5:=HBR.o.cell (i:=5) rfl
    have r6:=HBR.o.cell (i:=6) rfl
    have r7:=HBR.o.cell (i:=7) rfl
    have r8:=HBR.o.cell (i:=8) rfl
    have r9:=HBR.o.cell (i:=9) rfl
    have r10:=HBR.o.cell (i:=10) rfl
    have r11:=HBR.o.cell (i:=11) rfl
    have rf0:=HBR.o.fz
    have y0:=HBF.o.all
    have yf0:=HBF.o.fz
    go_wp2_with fail
    have hxs:=HXS.o
    refine bodyPost_ret (v:=.tuple #[.agg (kJ (Pl.ssC c m) (some ⟨gd,0,none⟩) (some ⟨ga,0,none⟩) (some ⟨g1,0,none⟩) (some ⟨g2,0,none⟩) cd cA c1 c2),iv (Pl.ssN c m),.agg (ftC (Pl.ssF c m)),.bool (Pl.iP c m)]) ?_ rfl ⟨some ⟨gd,0,none⟩,some ⟨ga,0,none⟩,some ⟨g1,0,none⟩,some ⟨g2,0,none⟩,cd,cA,c1,c2,rfl,?co,?kw⟩
    case co=>
     rw [RES.o.1]
     refine (HC.o.kept (lo:=w.heap.size+1) (hi:=w.heap.size+3) ?_ (by omega)).Ef (by omega)
     repeat (first|with_reducible exact Kept.refl _ _ _|refine ag ?_ _ _ _ (.inl (by omega)))
    case kw=>
     repeat (first|with_reducible exact HK.o|refine ag ?_ _ _ _ (.inr (by omega)))
    rw [aU rfl,RES.o.1,RES.o.2.1,RES.o.2.2,EO.o];unfold kJ;rw [LN.o.1,LN.o.2.1,LN.o.2.2];(try rw [HST.o]);(try rw [HHA.o]);go_simp;first|rfl|exact ⟨rfl,rfl⟩|(repeat' apply And.intro)<;>rfl
   ·rcases Bool.eq_false_or_eq_true X.ha with hha|hha
    ·have RES:Hid (Pl.ssC c m=X∧Pl.ssN c m=(k:Int)∧Pl.ssF c m=Pl.aI):=hide (by rw [EC.o,EN.o,EF.o,HT.o,wX.o];rw [hj];simp [Pl.dM,hha])
     have HST:=hide hst
     have HHA:=hide hha
     clear hst hha
     have o0:=HBO.o.cell (i:=0) rfl
     have o1:=HBO.o.cell (i:=1) rfl
     have o2:=HBO.o.cell (i:=2) rfl
     have o3:=HBO.o.cell (i:=3) rfl
     have o4:=HBO.o.cell (i:=4) rfl
     have o5:=HBO.o.cell (i:=5) rfl
     have o6:=HBO.o.cell (i:=6) rfl
     have o7:=HBO.o.cell (i:=7) rfl
     have o8:=HBO.o.cell (i:=8) rfl
     have o9:=HBO.o.cell (i:=9) rfl
     have o10:=HBO.o.cell (i:=10) rfl
     rw [HST.o] at o10
     have o11:=HBO.o.cell (i:=11) rfl
     rw [HHA.o] at o11
     have r0:=HBR.o.cell (i:=0) rfl
     have r1:=HBR.o.cell (i:=1) rfl
     have r2:=HBR.o.cell (i:=2) rfl
     have r3:=HBR.o.cell (i:=3) rfl
     have r4:=HBR.o.cell (i:=4) rfl
     have r5:=HBR.o.cell (i:=5) rfl
     have r6:=HBR.o.cell (i:=6) rfl
     have r7:=HBR.o.cell (i:=7) rfl
     have r8:=HBR.o.cell (i:=8) rfl
     have r9:=HBR.o.cell (i:=9) rfl
     have r10:=HBR.o.cell (i:=10) rfl
     have r11:=HBR.o.cell (i:=11) rfl
     have rf0:=HBR.o.fz
     have y0:=HBF.o.all
     have yf0:=HBF.o.fz
     go_wp2_with fail
     have hxs:=HXS.o
     refine bodyPost_ret (v:=.tuple #[.agg (kJ (Pl.ssC c m) (some ⟨gd,0,none⟩) (some ⟨ga,0,none⟩) (some ⟨g1,0,none⟩) (some ⟨g2,0,none⟩) cd cA c1 c2),iv (Pl.ssN c m),.agg (ftC (Pl.ssF c m)),.bool (Pl.iP c m)]) ?_ rfl ⟨some ⟨gd,0,none⟩,some ⟨ga,0,none⟩,some ⟨g1,0,none⟩,some ⟨g2,0,none⟩,cd,cA,c1,c2,rfl,?co,?kw⟩
     case co=>
      rw [RES.o.1]
      refine (HC.o.kept (lo:=w.heap.size+1) (hi:=w.heap.size+3) ?_ (by omega)).Ef (by omega)
      repeat (first|with_reducible exact Kept.refl _ _ _|refine ag ?_ _ _ _ (.inl (by omega)))
     case kw=>
      repeat (first|with_reducible exact HK.o|refine ag ?_ _ _ _ (.inr (by omega)))
     rw [aU rfl,RES.o.1,RES.o.2.1,RES.o.2.2,EO.o];unfold kJ;rw [LN.o.1,LN.o.2.1,LN.o.2.2];(try rw [HST.o]);(try rw [HHA.o]);go_simp;first|rfl|exact ⟨rfl,rfl⟩|(repeat' apply And.intro)<;>rfl
    ·skip
     have HST:=hide hst
     have HHA:=hide hha
     clear hst hha
     have o0:=HBO.o.cell (i:=0) rfl
     have o1:=HBO.o.cell (i:=1) rfl
     have o2:=HBO.o.cell (i:=2) rfl
     have o3:=HBO.o.cell (i:=3) rfl
     have o4:=HBO.o.cell (i:=4) rfl
     have o5:=HBO.o.cell (i:=5) rfl
     have o6:=HBO.o.cell (i:=6) rfl
     have o7:=HBO.o.cell (i:=7) rfl
     have o8:=HBO.o.cell (i:=8) rfl
     have o9:=HBO.o.cell (i:=9) rfl
     have o10:=HBO.o.cell (i:=10) rfl
     have o11:=HBO.o.cell (i:=11) rfl
     rw [HST.o] at o10
     rw [HHA.o] at o11
     have MX:∀(r1:aJ wr (some ⟨gd,0,none⟩) X.r.xs) (r2:aJ wr (some ⟨ga,0,none⟩) X.r.ys) (r3:aJ wr (some ⟨g1,0,none⟩) X.bx) (r4:aJ wr (some ⟨g2,0,none⟩) X.bl),_:=fun r1 r2 r3 r4=>V3 wr X (some ⟨gd,0,none⟩) (some ⟨ga,0,none⟩) (some ⟨g1,0,none⟩) (some ⟨g2,0,none⟩) cd cA c1 c2 r1 r2 r3 r4 HOK.o HBL.o
     rw [HST.o,HHA.o] at MX
     go_wp2_with fail
     refine (MX HC.o.d.row HC.o.a.row HC.o.b.row HC.o.l.row).mono ?_
     unfold jE ftC
     rintro e9 W2 ⟨gd',cd',ga',cA',g1',c1',g2',c2',mid',rfl,hc9,k9⟩
     clear MX o0 o1 o2 o3 o4 o5 o6 o7 o8 o9 o10 o11
     have hz2:=k9.size
     have KZ:=ah (kept_alloc W2 (.cells #[.slice (some ⟨gd',0,none⟩) 4 cd',.slice (some ⟨ga',0,none⟩) 4 cA',iv (Pl.au X).r.o,iv (Pl.au X).r.p,iv (Pl.au X).r.f,iv (Pl.au X).r.m,.bool (Pl.au X).r.s,.bool (Pl.au X).r.t,.slice (some ⟨g1',0,none⟩) 512 c1',.slice (some ⟨g2',0,none⟩) (Pl.au X).bm c2',.bool (Pl.au X).st,.bool (Pl.au X).ha] 36)) (.cells #[iv (Pl.dh X).v,iv (Pl.dh X).pc,iv (Pl.dh X).ad,iv (Pl.dh X).wo,.bool (Pl.dh X).wr] 49)
     have BM:=(Blk.new W2 #[.slice (some ⟨gd',0,none⟩) 4 cd',.slice (some ⟨ga',0,none⟩) 4 cA',iv (Pl.au X).r.o,iv (Pl.au X).r.p,iv (Pl.au X).r.f,iv (Pl.au X).r.m,.bool (Pl.au X).r.s,.bool (Pl.au X).r.t,.slice (some ⟨g1',0,none⟩) 512 c1',.slice (some ⟨g2',0,none⟩) (Pl.au X).bm c2',.bool (Pl.au X).st,.bool (Pl.au X).ha] 36).alloc (.cells #[iv (Pl.dh X).v,iv (Pl.dh X).pc,iv (Pl.dh X).ad,iv (Pl.dh X).wo,.bool (Pl.dh X).wr] 49)
     have BN:=Blk.new (W2.alloc (.cells #[.slice (some ⟨gd',0,none⟩) 4 cd',.slice (some ⟨ga',0,none⟩) 4 cA',iv (Pl.au X).r.o,iv (Pl.au X).r.p,iv (Pl.au X).r.f,iv (Pl.au X).r.m,.bool (Pl.au X).r.s,.bool (Pl.au X).r.t,.slice (some ⟨g1',0,none⟩) 512 c1',.slice (some ⟨g2',0,none⟩) (Pl.au X).bm c2',.bool (Pl.au X).st,.bool (Pl.au X).ha] 36)) #[iv (Pl.dh X).v,iv (Pl.dh X).pc,iv (Pl.dh X).ad,iv (Pl.dh X).wo,.bool (Pl.dh X).wr] 49
     simp only [World.size_alloc] at BN
     obtain ⟨Z,hZ⟩:∃Z:World,(W2.alloc (.cells #[.slice (some ⟨gd',0,none⟩) 4 cd',.slice (some ⟨ga',0,none⟩) 4 cA',iv (Pl.au X).r.o,iv (Pl.au X).r.p,iv (Pl.au X).r.f,iv (Pl.au X).r.m,.bool (Pl.au X).r.s,.bool (Pl.au X).r.t,.slice (some ⟨g1',0,none⟩) 512 c1',.slice (some ⟨g2',0,none⟩) (Pl.au X).bm c2',.bool (Pl.au X).st,.bool (Pl.au X).ha] 36)).alloc (.cells #[iv (Pl.dh X).v,iv (Pl.dh X).pc,iv (Pl.dh X).ad,iv (Pl.dh X).wo,.bool (Pl.dh X).wr] 49)=Z:=⟨_,rfl⟩
     have szZ:Z.heap.size=W2.heap.size+2:=by simp [←hZ]
     rw [hZ] at KZ BM BN
     have HBM:=hide BM
     have HBN:=hide BN
     have sG:=hide ((HBO.o.af k9).af KZ)
     have YH:=hide ((HBR.o.af k9).af KZ)
     have YI:=hide ((HBF.o.af k9).af KZ)
     have HKZ:=hide ((HK.o.trans k9).trans KZ)
     have hxs:=HXS.o
     have HCZ:=hide ((hc9.cpO (base:=w.heap.size+3) (O:=W1.heap.size) (by omega) (.inl (by omega))).kept KZ (by omega))
     clear hc9 k9 KZ BM BN
     have m0:=HBM.o.all
     have n0:=HBN.o.all
     have o0:=sG.o.cell (i:=0) rfl
     have o1:=sG.o.cell (i:=1) rfl
     have o2:=sG.o.cell (i:=2) rfl
     have o3:=sG.o.cell (i:=3) rfl
     have o4:=sG.o.cell (i:=4) rfl
     have o5:=sG.o.cell (i:=5) rfl
     have o6:=sG.o.cell (i:=6) rfl
     have o7:=sG.o.cell (i:=7) rfl
     have o8:=sG.o.cell (i:=8) rfl
     have o9:=sG.o.cell (i:=9) rfl
     have o10:=sG.o.cell (i:=10) rfl
     have o11:=sG.o.cell (i:=11) rfl
     have of0:=sG.o.fz
     have Ru:Blk (Z.setCell ⟨W1.heap.size,0,none⟩ (.slice (some ⟨gd',0,none⟩) 4 cd')) (W1.heap.size) #[.slice (some ⟨gd',0,none⟩) 4 cd',.slice (some ⟨ga,0,none⟩) 4 cA,iv X.r.o,iv X.r.p,iv X.r.f,iv X.r.m,.bool X.r.s,.bool X.r.t,.slice (some ⟨g1,0,none⟩) 512 c1,.slice (some ⟨g2,0,none⟩) X.bm c2,.bool X.st,.bool X.ha] 36:=sG.o.set 0 (.slice (some ⟨gd',0,none⟩) 4 cd')
     have Rt:Blk ((Z.setCell ⟨W1.heap.size,0,none⟩ (.slice (some ⟨gd',0,none⟩) 4 cd')).setCell ⟨W1.heap.size,1,none⟩ (.slice (some ⟨ga',0,none⟩) 4 cA')) (W1.heap.size) #[.slice (some ⟨gd',0,none⟩) 4 cd',.slice (some ⟨ga',0,none⟩) 4 cA',iv X.r.o,iv X.r.p,iv X.r.f,iv X.r.m,.bool X.r.s,.bool X.r.t,.slice (some ⟨g1,0,none⟩) 512 c1,.slice (some ⟨g2,0,none⟩) X.bm c2,.bool X.st,.bool X.ha] 36:=Ru.set 1 (.slice (some ⟨ga',0,none⟩) 4 cA')
     have Rq:Blk (((Z.setCell ⟨W1.heap.size,0,none⟩ (.slice (some ⟨gd',0,none⟩) 4 cd')).setCell ⟨W1.heap.size,1,none⟩ (.slice (some ⟨ga',0,none⟩) 4 cA')).setCell ⟨W1.heap.size,2,none⟩ (iv (Pl.au X).r.o)) (W1.heap.size) #[.slice (some ⟨gd',0,none⟩) 4 cd',.slice (some ⟨ga',0,none⟩) 4 cA',iv (Pl.au X).r.o,iv X.r.p,iv X.r.f,iv X.r.m,.bool X.r.s,.bool X.r.t,.slice (some ⟨g1,0,none⟩) 512 c1,.slice (some ⟨g2,0,none⟩) X.bm c2,.bool X.st,.bool X.ha] 36:=Rt.set 2 (iv (Pl.au X).r.o)
     have Ro:Blk ((((Z.setCell ⟨W1.heap.size,0,none⟩ (.slice (some ⟨gd',0,none⟩) 4 cd')).setCell ⟨W1.heap.size,1,none⟩ (.slice (some ⟨ga',0,none⟩) 4 cA')).setCell ⟨W1.heap.size,2,none⟩ (iv (Pl.au X).r.o)).setCell ⟨W1.heap.size,3,none⟩ (iv (Pl.au X).r.p)) (W1.heap.size) #[.slice (some ⟨gd',0,none⟩) 4 cd',.slice (some ⟨ga',0,none⟩) 4 cA',iv (Pl.au X).r.o,iv (Pl.au X).r.p,iv X.r.f,iv X.r.m,.bool X.r.s,.bool X.r.t,.slice (some ⟨g1,0,none⟩) 512 c1,.slice (some ⟨g2,0,none⟩) X.bm c2,.bool X.st,.bool X.ha] 36:=Rq.set 3 (iv (Pl.au X).r.p)
     have Rn:Blk (((((Z.setCell ⟨W1.heap.size,0,none⟩ (.slice (some ⟨gd',0,none⟩) 4 cd')).setCell ⟨W1.heap.size,1,none⟩ (.slice (some ⟨ga',0,none⟩) 4 cA')).setCell ⟨W1.heap.size,2,none⟩ (iv (Pl.au X).r.o)).setCell ⟨W1.heap.size,3,none⟩ (iv (Pl.au X).r.p)).setCell ⟨W1.heap.size,4,none⟩ (iv (Pl.au X).r.f)) (W1.heap.size) #[.slice (some ⟨gd',0,none⟩) 4 cd',.slice (some ⟨ga',0,none⟩) 4 cA',iv (Pl.au X).r.o,iv (Pl.au X).r.p,iv (Pl.au X).r.f,iv X.r.m,.bool X.r.s,.bool X.r.t,.slice (some ⟨g1,0,none⟩) 512 c1,.slice (some ⟨g2,0,none⟩) X.bm c2,.bool X.st,.bool X.ha] 36:=Ro.set 4 (iv (Pl.au X).r.f)
     have Rl:Blk ((((((Z.setCell ⟨W1.heap.size,0,none⟩ (.slice (some ⟨gd',0,none⟩) 4 cd')).setCell ⟨W1.heap.size,1,none⟩ (.slice (some ⟨ga',0,none⟩) 4 cA')).setCell ⟨W1.heap.size,2,none⟩ (iv (Pl.au X).r.o)).setCell ⟨W1.heap.size,3,none⟩ (iv (Pl.au X).r.p)).setCell ⟨W1.heap.size,4,none⟩ (iv (Pl.au X).r.f)).setCell ⟨W1.heap.size,5,none⟩ (iv (Pl.au X).r.m)) (W1.heap.size) #[.slice (some ⟨gd',0,none⟩) 4 cd',.slice (some ⟨ga',0,none⟩) 4 cA',iv (Pl.au X).r.o,iv (Pl.au X).r.p,iv (Pl.au X).r.f,iv (Pl.au X).r.m,.bool X.r.s,.bool X.r.t,.slice (some ⟨g1,0,none⟩) 512 c1,.slice (some ⟨g2,0,none⟩) X.bm c2,.bool X.st,.bool X.ha] 36:=Rn.set 5 (iv (Pl.au X).r.m)
     have Rk:Blk (((((((Z.setCell ⟨W1.heap.size,0,none⟩ (.slice (some ⟨gd',0,none⟩) 4 cd')).setCell ⟨W1.heap.size,1,none⟩ (.slice (some ⟨ga',0,none⟩) 4 cA')).setCell ⟨W1.heap.size,2,none⟩ (iv (Pl.au X).r.o)).setCell ⟨W1.heap.size,3,none⟩ (iv (Pl.au X).r.p)).setCell ⟨W1.heap.size,4,none⟩ (iv (Pl.au X).r.f)).setCell ⟨W1.heap.size,5,none⟩ (iv (Pl.au X).r.m)).setCell ⟨W1.heap.size,6,none⟩ (.bool (Pl.au X).r.s)) (W1.heap.size) #[.slice (some ⟨gd',0,none⟩) 4 cd',.slice (some ⟨ga',0,none⟩) 4 cA',iv (Pl.au X).r.o,iv (Pl.au X).r.p,iv (Pl.au X).r.f,iv (Pl.au X).r.m,.bool (Pl.au X).r.s,.bool X.r.t,.slice (some ⟨g1,0,none⟩) 512 c1,.slice (some ⟨g2,0,none⟩) X.bm c2,.bool X.st,.bool X.ha] 36:=Rl.set 6 (.bool (Pl.au X).r.s)
     have Rj:Blk ((((((((Z.setCell ⟨W1.heap.size,0,none⟩ (.slice (some ⟨gd',0,none⟩) 4 cd')).setCell ⟨W1.heap.size,1,none⟩ (.slice (some ⟨ga',0,none⟩) 4 cA')).setCell ⟨W1.heap.size,2,none⟩ (iv (Pl.au X).r.o)).setCell ⟨W1.heap.size,3,none⟩ (iv (Pl.au X).r.p)).setCell ⟨W1.heap.size,4,none⟩ (iv (Pl.au X).r.f)).setCell ⟨W1.heap.size,5,none⟩ (iv (Pl.au X).r.m)).setCell ⟨W1.heap.size,6,none⟩ (.bool (Pl.au X).r.s)).setCell ⟨W1.heap.size,7,none⟩ (.bool (Pl.au X).r.t)) (W1.heap.size) #[.slice (some ⟨gd',0,none⟩) 4 cd',.slice (some ⟨ga',0,none⟩) 4 cA',iv (Pl.au X).r.o,iv (Pl.au X).r.p,iv (Pl.au X).r.f,iv (Pl.au X).r.m,.bool (Pl.au X).r.s,.bool (Pl.au X).r.t,.slice (some ⟨g1,0,none⟩) 512 c1,.slice (some ⟨g2,0,none⟩) X.bm c2,.bool X.st,.bool X.ha] 36:=Rk.set 7 (.bool (Pl.au X).r.t)
     have Ri:Blk (((((((((Z.setCell ⟨W1.heap.size,0,none⟩ (.slice (some ⟨gd',0,none⟩) 4 cd')).setCell ⟨W1.heap.size,1,none⟩ (.slice (some ⟨ga',0,none⟩) 4 cA')).setCell ⟨W1.heap.size,2,none⟩ (iv (Pl.au X).r.o)).setCell ⟨W1.heap.size,3,none⟩ (iv (Pl.au X).r.p)).setCell ⟨W1.heap.size,4,none⟩ (iv (Pl.au X).r.f)).setCell ⟨W1.heap.size,5,none⟩ (iv (Pl.au X).r.m)).setCell ⟨W1.heap.size,6,none⟩ (.bool (Pl.au X).r.s)).setCell ⟨W1.heap.size,7,none⟩ (.bool (Pl.au X).r.t)).setCell ⟨W1.heap.size,8,none⟩ (.slice (some ⟨g1',0,none⟩) 512 c1')) (W1.heap.size) #[.slice (some ⟨gd',0,none⟩) 4 cd',.slice (some ⟨ga',0,none⟩) 4 cA',iv (Pl.au X).r.o,iv (Pl.au X).r.p,iv (Pl.au X).r.f,iv (Pl.au X).r.m,.bool (Pl.au X).r.s,.bool (Pl.au X).r.t,.slice (some ⟨g1',0,none⟩) 512 c1',.slice (some ⟨g2,0,none⟩) X.bm c2,.bool X.st,.bool X.ha] 36:=Rj.set 8 (.slice (some ⟨g1',0,none⟩) 512 c1')
     have Rh:Blk ((((((((((Z.setCell ⟨W1.heap.size,0,none⟩ (.slice (some ⟨gd',0,none⟩) 4 cd')).setCell ⟨W1.heap.size,1,none⟩ (.slice (some ⟨ga',0,none⟩) 4 cA')).setCell ⟨W1.heap.size,2,none⟩ (iv (Pl.au X).r.o)).setCell ⟨W1.heap.size,3,none⟩ (iv (Pl.au X).r.p)).setCell ⟨W1.heap.size,4,none⟩ (iv (Pl.au X).r.f)).setCell ⟨W1.heap.size,5,none⟩ (iv (Pl.au X).r.m)).setCell ⟨W1.heap.size,6,none⟩ (.bool (Pl.au X).r.s)).setCell ⟨W1.heap.size,7,none⟩ (.bool (Pl.au X).r.t)).setCell ⟨W1.heap.size,8,none⟩ (.slice (some ⟨g1',0,none⟩) 512 c1')).setCell ⟨W1.heap.size,9,none⟩ (.slice (some ⟨g2',0,none⟩) (Pl.au X).bm c2')) (W1.heap.size) #[.slice (some ⟨gd',0,none⟩) 4 cd',.slice (some ⟨ga',0,none⟩) 4 cA',iv (Pl.au X).r.o,iv (Pl.au X).r.p,iv (Pl.au X).r.f,iv (Pl.au X).r.m,.bool (Pl.au X).r.s,.bool (Pl.au X).r.t,.slice (some ⟨g1',0,none⟩) 512 c1',.slice (some ⟨g2',0,none⟩) (Pl.au X).bm c2',.bool X.st,.bool X.ha] 36:=Ri.set 9 (.slice (some ⟨g2',0,none⟩) (Pl.au X).bm c2')
     have Na:Blk (((((((((((Z.setCell ⟨W1.heap.size,0,none⟩ (.slice (some ⟨gd',0,none⟩) 4 cd')).setCell ⟨W1.heap.size,1,none⟩ (.slice (some ⟨ga',0,none⟩) 4 cA')).setCell ⟨W1.heap.size,2,none⟩ (iv (Pl.au X).r.o)).setCell ⟨W1.heap.size,3,none⟩ (iv (Pl.au X).r.p)).setCell ⟨W1.heap.size,4,none⟩ (iv (Pl.au X).r.f)).setCell ⟨W1.heap.size,5,none⟩ (iv (Pl.au X).r.m)).setCell ⟨W1.heap.size,6,none⟩ (.bool (Pl.au X).r.s)).setCell ⟨W1.heap.size,7,none⟩ (.bool (Pl.au X).r.t)).setCell ⟨W1.heap.size,8,none⟩ (.slice (some ⟨g1',0,none⟩) 512 c1')).setCell ⟨W1.heap.size,9,none⟩ (.slice (some ⟨g2',0,none⟩) (Pl.au X).bm c2')).setCell ⟨W1.heap.size,10,none⟩ (.bool (Pl.au X).st)) (W1.heap.size) #[.slice (some ⟨gd',0,none⟩) 4 cd',.slice (some ⟨ga',0,none⟩) 4 cA',iv (Pl.au X).r.o,iv (Pl.au X).r.p,iv (Pl.au X).r.f,iv (Pl.au X).r.m,.bool (Pl.au X).r.s,.bool (Pl.au X).r.t,.slice (some ⟨g1',0,none⟩) 512 c1',.slice (some ⟨g2',0,none⟩) (Pl.au X).bm c2',.bool (Pl.au X).st,.bool X.ha] 36:=Rh.set 10 (.bool (Pl.au X).st)
     have BOV:Blk ((((((((((((Z.setCell ⟨W1.heap.size,0,none⟩ (.slice (some ⟨gd',0,none⟩) 4 cd')).setCell ⟨W1.heap.size,1,none⟩ (.slice (some ⟨ga',0,none⟩) 4 cA')).setCell ⟨W1.heap.size,2,none⟩ (iv (Pl.au X).r.o)).setCell ⟨W1.heap.size,3,none⟩ (iv (Pl.au X).r.p)).setCell ⟨W1.heap.size,4,none⟩ (iv (Pl.au X).r.f)).setCell ⟨W1.heap.size,5,none⟩ (iv (Pl.au X).r.m)).setCell ⟨W1.heap.size,6,none⟩ (.bool (Pl.au X).r.s)).setCell ⟨W1.heap.size,7,none⟩ (.bool (Pl.au X).r.t)).setCell ⟨W1.heap.size,8,none⟩ (.slice (some ⟨g1',0,none⟩) 512 c1')).setCell ⟨W1.heap.size,9,none⟩ (.slice (some ⟨g2',0,none⟩) (Pl.au X).bm c2')).setCell ⟨W1.heap.size,10,none⟩ (.bool (Pl.au X).st)).setCell ⟨W1.heap.size,11,none⟩ (.bool (Pl.au X).ha)) (W1.heap.size) #[.slice (some ⟨gd',0,none⟩) 4 cd',.slice (some ⟨ga',0,none⟩) 4 cA',iv (Pl.au X).r.o,iv (Pl.au X).r.p,iv (Pl.au X).r.f,iv (Pl.au X).r.m,.bool (Pl.au X).r.s,.bool (Pl.au X).r.t,.slice (some ⟨g1',0,none⟩) 512 c1',.slice (some ⟨g2',0,none⟩) (Pl.au X).bm c2',.bool (Pl.au X).st,.bool (Pl.au X).ha] 36:=Na.set 11 (.bool (Pl.au X).ha)
     clear Ru Rt Rq Ro Rn Rl Rk Rj Ri Rh Na
     have KV:Kept W1.heap.size (W1.heap.size+1) Z ((((((((((((Z.setCell ⟨W1.heap.size,0,none⟩ (.slice (some ⟨gd',0,none⟩) 4 cd')).setCell ⟨W1.heap.size,1,none⟩ (.slice (some ⟨ga',0,none⟩) 4 cA')).setCell ⟨W1.heap.size,2,none⟩ (iv (Pl.au X).r.o)).setCell ⟨W1.heap.size,3,none⟩ (iv (Pl.au X).r.p)).setCell ⟨W1.heap.size,4,none⟩ (iv (Pl.au X).r.f)).setCell ⟨W1.heap.size,5,none⟩ (iv (Pl.au X).r.m)).setCell ⟨W1.heap.size,6,none⟩ (.bool (Pl.au X).r.s)).setCell ⟨W1.heap.size,7,none⟩ (.bool (Pl.au X).r.t)).setCell ⟨W1.heap.size,8,none⟩ (.slice (some ⟨g1',0,none⟩) 512 c1')).setCell ⟨W1.heap.size,9,none⟩ (.slice (some ⟨g2',0,none⟩) (Pl.au X).bm c2')).setCell ⟨W1.heap.size,10,none⟩ (.bool (Pl.au X).st)).setCell ⟨W1.heap.size,11,none⟩ (.bool (Pl.au X).ha)):=by
      repeat (first|with_reducible exact Kept.refl _ _ _|refine ag ?_ _ _ _ (.inl (by omega)))
     have KWV:Kept 0 0 w ((((((((((((Z.setCell ⟨W1.heap.size,0,none⟩ (.slice (some ⟨gd',0,none⟩) 4 cd')).setCell ⟨W1.heap.size,1,none⟩ (.slice (some ⟨ga',0,none⟩) 4 cA')).setCell ⟨W1.heap.size,2,none⟩ (iv (Pl.au X).r.o)).setCell ⟨W1.heap.size,3,none⟩ (iv (Pl.au X).r.p)).setCell ⟨W1.heap.size,4,none⟩ (iv (Pl.au X).r.f)).setCell ⟨W1.heap.size,5,none⟩ (iv (Pl.au X).r.m)).setCell ⟨W1.heap.size,6,none⟩ (.bool (Pl.au X).r.s)).setCell ⟨W1.heap.size,7,none⟩ (.bool (Pl.au X).r.t)).setCell ⟨W1.heap.size,8,none⟩ (.slice (some ⟨g1',0,none⟩) 512 c1')).setCell ⟨W1.heap.size,9,none⟩ (.slice (some ⟨g2',0,none⟩) (Pl.au X).bm c2')).setCell ⟨W1.heap.size,10,none⟩ (.bool (Pl.au X).st)).setCell ⟨W1.heap.size,11,none⟩ (.bool (Pl.au X).ha)):=by
      repeat (first|with_reducible exact HKZ.o|refine ag ?_ _ _ _ (.inr (by omega)))
     obtain ⟨V,hV⟩:∃V:World,((((((((((((Z.setCell ⟨W1.heap.size,0,none⟩ (.slice (some ⟨gd',0,none⟩) 4 cd')).setCell ⟨W1.heap.size,1,none⟩ (.slice (some ⟨ga',0,none⟩) 4 cA')).setCell ⟨W1.heap.size,2,none⟩ (iv (Pl.au X).r.o)).setCell ⟨W1.heap.size,3,none⟩ (iv (Pl.au X).r.p)).setCell ⟨W1.heap.size,4,none⟩ (iv (Pl.au X).r.f)).setCell ⟨W1.heap.size,5,none⟩ (iv (Pl.au X).r.m)).setCell ⟨W1.heap.size,6,none⟩ (.bool (Pl.au X).r.s)).setCell ⟨W1.heap.size,7,none⟩ (.bool (Pl.au X).r.t)).setCell ⟨W1.heap.size,8,none⟩ (.slice (some ⟨g1',0,none⟩) 512 c1')).setCell ⟨W1.heap.size,9,none⟩ (.slice (some ⟨g2',0,none⟩) (Pl.au X).bm c2')).setCell ⟨W1.heap.size,10,none⟩ (.bool (Pl.au X).st)).setCell ⟨W1.heap.size,11,none⟩ (.bool (Pl.au X).ha))=V:=⟨_,rfl⟩
     rw [hV] at BOV KV KWV
     have szV:=KV.size
     have HCV:=hide (HCZ.o.kept KV (by omega))
     have sF:=hide (YH.o.kept KV (by omega))
     have UT:=hide (YI.o.kept KV (by omega))
     have Xe:=hide (HBN.o.kept KV (by omega))
     have Xd:=hide BOV
     have HKV:=hide KWV
     clear BOV KV KWV
     have LN2:Hid ((Pl.au X).r.xs.length=4∧(Pl.au X).r.ys.length=4∧(Pl.au X).bx.length=512):=hide (Pl.Ht HOK.o HBL.o)
     have GD:=hide (Pl.sO HOK.o HBL.o)
     have n0V:=Xe.o.cell (i:=0) rfl
     by_cases hv:(Pl.dh X).v=0
     ·have WZ:Hid (Pl.dM m 0 c=Pl.dM (m-(k+1)) (k+1) (Pl.au X)):=hide (by rw [wX.o,hj];simp [Pl.dM,HST.o,HHA.o,hv];rw [show m-k-1=m-(k+1) by omega])
      have HV:=hide hv
      clear hv
      rw [HV.o] at n0V
      go_wp2_with fail
      clear hZ hV n0V
      go_roundw
      case rel=>exact ⟨k+1,Pl.au X,gd',cd',ga',cA',g1',c1',g2',c2',by omega,by go_num,GD.o.1,GD.o.2,WZ.o,Xd.o,HCV.o,sF.o,UT.o,HKV.o,by omega⟩
      case measure=>simp [intOf];omega
     ·have RES:Hid (Pl.ssC c m=Pl.au X∧Pl.ssN c m=(k:Int)∧Pl.ssF c m=Pl.dh X):=hide (by rw [EC.o,EN.o,EF.o,HT.o,wX.o,hj];simp [Pl.dM,HST.o,HHA.o,hv])
      have p0:=Xd.o.all
      have r0:=sF.o.cell (i:=0) rfl
      have r1:=sF.o.cell (i:=1) rfl
      have r2:=sF.o.cell (i:=2) rfl
      have r3:=sF.o.cell (i:=3) rfl
      have r4:=sF.o.cell (i:=4) rfl
      have r5:=sF.o.cell (i:=5) rfl
      have r6:=sF.o.cell (i:=6) rfl
      have r7:=sF.o.cell (i:=7) rfl
      have r8:=sF.o.cell (i:=8) rfl
      have r9:=sF.o.cell (i:=9) rfl
      have r10:=sF.o.cell (i:=10) rfl
      have r11:=sF.o.cell (i:=11) rfl
      have rf0:=sF.o.fz
      have y0:=UT.o.all
      have yf0:=UT.o.fz
      have nn0:=Xe.o.all
      go_wp2_with fail
      go_region
      go_wp2_with fail
      clear hZ hV
      have hxs:=HXS.o
      refine bodyPost_ret (v:=.tuple #[.agg (kJ (Pl.ssC c m) (some ⟨gd',0,none⟩) (some ⟨ga',0,none⟩) (some ⟨g1',0,none⟩) (some ⟨g2',0,none⟩) cd' cA' c1' c2'),iv (Pl.ssN c m),.agg (ftC (Pl.ssF c m)),.bool (Pl.iP c m)]) ?_ rfl ⟨some ⟨gd',0,none⟩,some ⟨ga',0,none⟩,some ⟨g1',0,none⟩,some ⟨g2',0,none⟩,cd',cA',c1',c2',rfl,?co,?kw⟩
      case co=>
       rw [RES.o.1]
       refine (HCV.o.kept (lo:=w.heap.size+1) (hi:=w.heap.size+3) ?_ (by omega)).Ef (by omega)
       refine ae ?_
       repeat (first|with_reducible exact Kept.refl _ _ _|refine ag ?_ _ _ _ (.inl (by omega)))
      case kw=>
       refine ae ?_
       repeat (first|with_reducible exact HKV.o|refine ag ?_ _ _ _ (.inr (by omega)))
      rw [aU rfl,RES.o.1,RES.o.2.1,RES.o.2.2,EO.o];unfold kJ;rw [LN2.o.1,LN2.o.2.1,LN2.o.2.2];(try rw [HST.o]);(try rw [HHA.o]);go_simp;first|rfl|exact ⟨rfl,rfl⟩|(repeat' apply And.intro)<;>rfl
  ·have RES:Hid (Pl.ssC c m=X∧Pl.ssN c m=(k:Int)∧Pl.ssF c m=Pl.aI):=hide (by rw [EC.o,EN.o,EF.o,HT.o,wX.o];rw [show m-k=0 by omega];simp [Pl.dM])
   have o0:=HBO.o.cell (i:=0) rfl
   have o1:=HBO.o.cell (i:=1) rfl
   have o2:=HBO.o.cell (i:=2) rfl
   have o3:=HBO.o.cell (i:=3) rfl
   have o4:=HBO.o.cell (i:=4) rfl
   have o5:=HBO.o.cell (i:=5) rfl
   have o6:=HBO.o.cell (i:=6) rfl
   have o7:=HBO.o.cell (i:=7) rfl
   have o8:=HBO.o.cell (i:=8) rfl
   have o9:=HBO.o.cell (i:=9) rfl
   have o10:=HBO.o.cell (i:=10) rfl
   have o11:=HBO.o.cell (i:=11) rfl
   have r0:=HBR.o.cell (i:=0) rfl
   have r1:=HBR.o.cell (i:=1) rfl
   have r2:=HBR.o.cell (i:=2) rfl
   have r3:=HBR.o.cell (i:=3) rfl
   have r4:=HBR.o.cell (i:=4) rfl
   have r5:=HBR.o.cell (i:=5) rfl
   have r6:=HBR.o.cell (i:=6) rfl
   have r7:=HBR.o.cell (i:=7) rfl
   have r8:=HBR.o.cell (i:=8) rfl
   have r9:=HBR.o.cell (i:=9) rfl
   have r10:=HBR.o.cell (i:=10) rfl
   have r11:=HBR.o.cell (i:=11) rfl
   have rf0:=HBR.o.fz
   have y0:=HBF.o.all
   have yf0:=HBF.o.fz
   go_wp2_with fail
   have hxs:=HXS.o
   refine bodyPost_ret (v:=.tuple #[.agg (kJ (Pl.ssC c m) (some ⟨gd,0,none⟩) (some ⟨ga,0,none⟩) (some ⟨g1,0,none⟩) (some ⟨g2,0,none⟩) cd cA c1 c2),iv (Pl.ssN c m),.agg (ftC (Pl.ssF c m)),.bool (Pl.iP c m)]) ?_ rfl ⟨some ⟨gd,0,none⟩,some ⟨ga,0,none⟩,some ⟨g1,0,none⟩,some ⟨g2,0,none⟩,cd,cA,c1,c2,rfl,?co,?kw⟩
   case co=>
    rw [RES.o.1]
    refine (HC.o.kept (lo:=w.heap.size+1) (hi:=w.heap.size+3) ?_ (by omega)).Ef (by omega)
    repeat (first|with_reducible exact Kept.refl _ _ _|refine ag ?_ _ _ _ (.inl (by omega)))
   case kw=>
    repeat (first|with_reducible exact HK.o|refine ag ?_ _ _ _ (.inr (by omega)))
   rw [aU rfl,RES.o.1,RES.o.2.1,RES.o.2.2,EO.o];unfold kJ;rw [LN.o.1,LN.o.2.1,LN.o.2.2];(try rw [HST.o]);(try rw [HHA.o]);go_simp;first|rfl|exact ⟨rfl,rfl⟩|(repeat' apply And.intro)<;>rfl
theorem xM (w:World) (c:Pl.Cp) (n:Int) (a b e q:Option Addr) (ca cb ce cq:Nat) (ha:aJ w a c.r.xs) (hb:aJ w b c.r.ys) (he:aJ w e c.bx) (hq:aJ w q c.bl) (lx:c.r.xs.length≤2000000) (ly:c.r.ys.length≤2000000) (lb:c.bx.length≤2000000) (ll:c.bl.length=5*c.bm) (lm:c.bm≤2000000) :
  Calls prog 22 #[.agg (cpA c a b e q ca cb ce cq),iv n] w fun r w'=>∃(a' b' e' q':Option Addr) (ca' cb' ce' cq':Nat),r=.returned (.tuple #[.agg (kJ (Pl.ssC c n) a' b' e' q' ca' cb' ce' cq'),iv (Pl.ssN c n),.agg (ftC (Pl.ssF c n)),.bool (Pl.iP c n)])∧lC w' w.heap.size (Pl.ssC c n) a' b' e' q'∧Kept 0 0 w w':=by
 cases h1:Pl.ik c
 ·exact sQ w c n a b e q ca cb ce cq ha hb he hq lx ly lb ll lm h1 trivial
 ·cases h2:Pl.within n 0 60
  ·exact rC w c n a b e q ca cb ce cq ha hb he hq lx ly lb ll lm h1 h2
  ·exact uw w c n a b e q ca cb ce cq ha hb he hq lx ly lb ll lm h1 h2
namespace Pl
structure Eu (c:Cp):Prop where
 d:c.r.xs.length≤4
 a:c.r.ys.length≤4
 b:c.bx.length≤512
 l:c.bl.length=5*c.bm
 m:c.bm≤400
theorem Lh:Eu Ae:=⟨by decide,by decide,by decide,by decide,by decide⟩
theorem wu {c:Cp} (h:ik c=true) (hl:c.bl.length=5*c.bm):Eu c:=by
 have g:=GM.of h hl c.st
 exact ⟨by have:=g.g.d4;simp only at this;omega,by have:=g.g.a4;simp only at this;omega,by have:=g.bx;simp only at this;omega,hl,g.bm⟩
theorem uY:∀(n d:Nat) (c:Cp),ik c=true→c.bl.length=5*c.bm→Eu (dM n d c).1
 | 0,d,c,h,hl=>wu h hl
 | n+1,d,c,h,hl=>by
  obtain ⟨g1,g2⟩:=sO h hl
  unfold dM
  split
  ·exact wu h hl
  ·split
   ·exact wu g1 g2
   ·exact uY n (d+1) (au c) g1 g2
theorem RV (c:Cp) (n:Int) (hl:c.bl.length=5*c.bm):Eu (ssC c n):=by
 unfold ssC
 cases h:iP c n
 ·exact Lh
 ·have h1:ik c=true:=by unfold iP at h;cases q:ik c<;>simp_all
  exact uY _ _ _ h1 hl
end Pl
theorem lC.sl {w:World} {base:Nat} {c:Pl.Cp} {a b e q:Option Addr} (h:lC w base c a b e q):Dh w base w.heap.size c a b e q:=
 ⟨h.d,h.a',h.b',h.l,h.n1,h.n2,h.n3,h.n4,h.n5,h.n6⟩
structure Pl.WfR (d:Pl.Rg):Prop where
 o:(Lit.int .i64 d.o).wf=true
 p:(Lit.int .i64 d.p).wf=true
 f:(Lit.int .i64 d.f).wf=true
 m:(Lit.int .i64 d.m).wf=true
theorem wfB {v:Int} (h:(Lit.int .i64 v).wf=true) : -9223372036854775808≤v∧v≤9223372036854775807:=bounds_i64 h
theorem Ym (v:Int):Pl.okv 2 v=Pl.aT v:=by
 unfold Pl.okv Pl.aT Pl.within Pl.top
 rw [Bool.eq_iff_iff];simp;omega
theorem isWord (v:Int) (w:World) (lo : -9223372036854775808≤v) (hi:v≤9223372036854775807) :
  Calls prog 85 #[iv v] w fun e w'=>e=.returned (.bool (Pl.aT v))∧w'=w:=by
 go_enter func85,ntmps85
 go_wp2_with (go_at_call 128;refine st (dG _ _ _ lo hi) ?_;rw [Ym])
 go_ret
 exact ⟨rfl,rfl⟩
theorem Wn (k:Int) (w:World):Calls prog 214 #[iv k] w fun e w'=>e=.returned (.bool (Pl.within k 0 3))∧w'=w:=by
 by_cases h0:0≤k
 ·by_cases h1:k≤3
  ·go_enter func214,ntmps214
   go_wp2
   go_ret
   exact ⟨rB (by simp [Pl.within,h0,h1]),rfl⟩
  ·go_enter func214,ntmps214
   go_wp2
   go_ret
   exact ⟨rB (by simp [Pl.within,h0];omega),rfl⟩
 ·go_enter func214,ntmps214
  go_wp2
  go_ret
  exact ⟨rB (by simp [Pl.within];omega),rfl⟩
theorem iw (v:Int) (w:World):Calls prog 117 #[iv v] w fun e w'=>e=.returned (iv (v%65536))∧w'=w:=by
 have hW:=IntKind.wrap_u16 v
 go_enter func117,ntmps117
 go_wp2
 go_ret
 exact ⟨rfl,rfl⟩
end Go.Proofs.YtkkmnnhaailkcaaGreatDoor
