/- Part 13 of what the last text leans on. -/
import Derived.Test.YtgikibaajanjiaaGreatDoorJD12
set_option maxRecDepth 100000
set_option maxHeartbeats 16000000
namespace Go.Proofs.YtgikibaajanjiaaGreatDoor
open Pl
open Go.RowKit Go.Proofs.Tryz
set_option linter.unusedVariables false
theorem Pl.GM.fetch {c:Mc} (h:GM c):GM c.fetch:=by
 have h0:GM c.fe0:=h.ft _;have h1:GM c.fe1:=h0.acc (dZ (.inr rfl) h.p0 h.p1);have h2:GM c.fe2:=h1.ft _
 have h3:GM c.fe3:=by
  unfold Mc.fe3;cases dX c.feW==2
  ·exact h2
  ·exact h2.acc (dZ (.inr rfl) (by unfold Mc.feA;omega) (by unfold Mc.feA;omega))
 unfold Mc.fetch;cases !c.fe1.fine
 ·cases !c.fe3.fine
  ·cases !bP c.feX
   ·exact h3
   ·exact h3.ft _
  ·exact h3
 ·exact h1
theorem MB.laid2 {w:World} {p gd cd ga ca g1 c1 g2 c2:Nat} {c:Mc} (h:MB w p gd cd ga ca g1 c1 g2 c2 c) (r:Rg) (gd' cd' ga' ca':Nat):MB ((((((((w.setCell (abb p 0) ((.slice (some (abb gd' 0)) 4 cd'))).setCell (abb p 1) ((.slice (some (abb ga' 0)) 4 ca'))).setCell (abb p 2) ((iv r.o))).setCell (abb p 3) ((iv r.p))).setCell (abb p 4) ((iv r.f))).setCell (abb p 5) ((iv r.m))).setCell (abb p 6) ((.bool r.s))).setCell (abb p 7) ((.bool r.t))) p gd' cd' ga' ca' g1 c1 g2 c2 (c.bC r):=by
 have q:=(((((((Blk.set h 0 (.slice (some (abb gd' 0)) 4 cd')).set 1 (.slice (some (abb ga' 0)) 4 ca')).set 2 (iv r.o)).set 3 (iv r.p)).set 4 (iv r.f)).set 5 (iv r.m)).set 6 (.bool r.s)).set 7 (.bool r.t);unfold jL at q;rw[Tc,SX,SV,Jk,Jj,SQ,SN,SK]at q;exact q
theorem jm {w w':World} {lo hi g g':Nat} (h:Since w lo hi g w' g') (hg:lo<=g) (hs:lo<=w.heap.size):Below lo w w':=⟨h.2.os,h.2.tape,h.2.output,h.2.size,fun k hk=>h.2.block k (by omega) (by unfold own;omega)⟩
theorem dM {w w':World} {lo:Nat} (k:Kept 0 0 w w') (hs:lo<=w.heap.size):Below lo w w':=⟨k.os,k.tape,k.output,k.size,fun i hi=>k.block i (by omega) (by omega)⟩
theorem Blk.below {w w':World} {lo b:Nat} {cs:Array Value} {ty:TypeId} (h:Blk w b cs ty) (k:Below lo w w') (hb:b<lo):Blk w' b cs ty:=(k.block b hb).trans h
theorem MAt.xy {w:World} {lo mid hi p g2:Nat} {c:Mc} (h:MAt w lo mid hi p g2 c):lo<=g2:=by
 obtain⟨gd,cd,ga,ca,g1,c1,c2,hB,hO⟩:=h;have:=hO.g2;have:=hO.d0;have:=hO.d1;omega
theorem Dq {W:World} {p gd cd ga ca g1 c1 g2 c2:Nat} {c:Mc} (hB:MB W p gd cd ga ca g1 c1 g2 c2 c):W.cell? (abb p 11)=some (iv c.f.v)/\W.cell? (abb p 12)=some (iv c.f.pc)/\W.cell? (abb p 13)=some (iv c.f.ad)/\W.cell? (abb p 14)=some (iv c.f.wo)/\W.cell? (abb p 15)=some (.bool c.f.wr):=by
 obtain⟨t0,t1,t2,t3,t4,t5,t6,t7,t8,t9,t10,t11,t12,t13,t14,t15⟩:=hB.cells;exact⟨t11,t12,t13,t14,t15⟩
theorem Ya (w:World) (b:Nat) (v0 v1 v2 v3 v4:Value):Kept b (b+1) w (((((w.setCell (abb b 0) v0).setCell (abb b 1) v1).setCell (abb b 2) v2).setCell (abb b 3) v3).setCell (abb b 4) v4):=((((ak w b 0 v0).one 1 v1).one 2 v2).one 3 v3).one 4 v4
theorem MB.sO {w:World} {p gd cd ga ca g1 c1 g2 c2 b:Nat} {c:Mc} (h:MB w p gd cd ga ca g1 c1 g2 c2 c) (hn:¬(b<=p/\p<b+1)) (v0 v1 v2 v3 v4 v5 v6 v7 v8 v9 v10 v11:Value):MB ((((((((((((w.setCell (abb b 0) v0).setCell (abb b 1) v1).setCell (abb b 2) v2).setCell (abb b 3) v3).setCell (abb b 4) v4).setCell (abb b 5) v5).setCell (abb b 6) v6).setCell (abb b 7) v7).setCell (abb b 8) v8).setCell (abb b 9) v9).setCell (abb b 10) v10).setCell (abb b 11) v11) p gd cd ga ca g1 c1 g2 c2 c:=Blk.kept h (Le _ _ v0 v1 v2 v3 v4 v5 v6 v7 v8 v9 v10 v11) hn
theorem MB.Jv {w:World} {p gd cd ga ca g1 c1 g2 c2 b:Nat} {c:Mc} (h:MB w p gd cd ga ca g1 c1 g2 c2 c) (hn:¬(b<=p/\p<b+1)) (v0 v1 v2 v3 v4:Value):MB (((((w.setCell (abb b 0) v0).setCell (abb b 1) v1).setCell (abb b 2) v2).setCell (abb b 3) v3).setCell (abb b 4) v4) p gd cd ga ca g1 c1 g2 c2 c:=Blk.kept h (Ya _ _ v0 v1 v2 v3 v4) hn
theorem CO.DZ {w w':World} {lo' lo x y mid gd ga g1 g2 c2:Nat} {c:Cp} (h:CO w lo' mid c gd ga g1 g2 c2) (hl:y<=lo') (hb:lo<=lo') (k:Kept x y w w'):CO w' lo mid c gd ga g1 g2 c2:=by
 have q:=h.l.lt g2 rfl;have:=h.d0;have:=h.d1;have:=h.b0;have:=h.a0;have:=h.a1;exact⟨h.d.ag k (by omega),h.a.ag k (by omega),h.b.ag k (by omega),bg h.l k (by omega),by omega,h.d1,by omega,h.a1,h.da,h.b0,Nat.lt_of_lt_of_le h.b1 k.size,h.bl⟩
theorem zV (w:World) (c:Cp) (a b e q:Option Addr) (ca cb ce cq:Nat) (ha:aF w a c.r.xs) (hb:aF w b c.r.ys) (he:aF w e c.bx) (hq:aF w q c.bl) (hok:dY c=true) (hl:c.bl.length=5*c.bm) (hf:(Mc.ofC c).fetch.fine=false) :
  Calls prog 82 #[.agg #[.slice a 4 ca,.slice b 4 cb,iv c.r.o,iv c.r.p,iv c.r.f,iv c.r.m,.bool c.r.s,.bool c.r.t,.slice e 512 ce,.slice q c.bm cq,.bool c.st,.bool c.ha]] w fun r w'=>∃gd cd ga cA g1 c1 g2 c2 mid:Nat,r=.returned (.tuple #[.agg (eP (dm c) gd cd ga cA g1 c1 g2 c2),.agg (ftC (fE c))])/\CO w' w.heap.size mid (dm c) gd ga g1 g2 c2/\Kept 0 0 w w':=by
 have HG:=aba (GM.of hok hl c.st);have h4:=HG.o.g.d4;have h5:=HG.o.g.a4;have hbx:=HG.o.bx;have hbm:=HG.o.bm;have K0:=aba (ah (ah (kept_alloc w (.cells #[.slice a 4 ca,.slice b 4 cb,iv c.r.o,iv c.r.p,iv c.r.f,iv c.r.m,.bool c.r.s,.bool c.r.t,.slice e 512 ce,.slice q c.bm cq,.bool c.st,.bool c.ha] 40)) (.cells cpZ 40)) (.cells ftZ 42));have B0:=((Blk.new w #[.slice a 4 ca,.slice b 4 cb,iv c.r.o,iv c.r.p,iv c.r.f,iv c.r.m,.bool c.r.s,.bool c.r.t,.slice e 512 ce,.slice q c.bm cq,.bool c.st,.bool c.ha] 40).alloc (.cells cpZ 40)).alloc (.cells ftZ 42);have B1:=(Blk.new (w.alloc (.cells #[.slice a 4 ca,.slice b 4 cb,iv c.r.o,iv c.r.p,iv c.r.f,iv c.r.m,.bool c.r.s,.bool c.r.t,.slice e 512 ce,.slice q c.bm cq,.bool c.st,.bool c.ha] 40)) cpZ 40).alloc (.cells ftZ 42);have B2:=Blk.new ((w.alloc (.cells #[.slice a 4 ca,.slice b 4 cb,iv c.r.o,iv c.r.p,iv c.r.f,iv c.r.m,.bool c.r.s,.bool c.r.t,.slice e 512 ce,.slice q c.bm cq,.bool c.st,.bool c.ha] 40)).alloc (.cells cpZ 40)) ftZ 42;simp only[World.size_alloc]at B1 B2;obtain⟨X,hX⟩:∃X:World,((w.alloc (.cells #[.slice a 4 ca,.slice b 4 cb,iv c.r.o,iv c.r.p,iv c.r.f,iv c.r.m,.bool c.r.s,.bool c.r.t,.slice e 512 ce,.slice q c.bm cq,.bool c.st,.bool c.ha] 40)).alloc (.cells cpZ 40)).alloc (.cells ftZ 42)=X:=⟨_,rfl⟩
 rw[hX]at K0 B0 B1 B2;have hxs:X.heap.size=w.heap.size+3:=by rw[<-hX];simp
 have HXS:=aba hxs;have HB0:=aba B0;have HB1:=aba B1;have HB2:=aba B2;have HA:=aba (ha.ag K0.o);have HB:=aba (hb.ag K0.o);have HE:=aba (he.ag K0.o);have HQ:=aba (hq.ag K0.o);have HAw:=aba ha;have HBw:=aba hb;clear B0 B1 B2 ha hb he hq hxs;have i0:=HB0.o.all;have HGf:Hid (GM (Mc.ofC c).fetch):=aba (GM.fetch HG.o)
 have ES:Pl.stepM c=(Mc.ofC c).fetch:=by
  have e1:(Mc.ofC c).s1=(Mc.ofC c).fetch:=by unfold Mc.s1;rw[hf];rfl
  unfold Pl.stepM Mc.s2;rw[e1,hf];rfl
 have EC:Hid (dm c=Mc.cpu {((Mc.ofC c).fetch.bC c.r) with st:=c.st} false):=aba (by unfold dm;rw[ES,hf];rfl);have EF:Hid (fE c=(Mc.ofC c).fetch.f):=aba (by unfold fE;rw[ES,hf];rfl);have HBL:Hid (w.heap.size<X.heap.size):=aba (by have:=HXS.o;omega);clear ES;go_enter func82,ntmps82;go_wp2_with (first|(go_at_call 112;have z9:=HBm;refine st (bY _ X.heap.size mid W1.heap.size p g3 _ HMZ.o) ?_;rw[hf])|(go_at_call 114;have z9:=HBm;refine(own4 _ c.r a b ca cb (HAw.o.ag HKZ.o) (HBw.o.ag HKZ.o) h4 h5).mono ?_;unfold jK;rintro e9 W3⟨gd',cd',ga',ca',rfl,od,oa,d0,d1,a0,a1,da,k9⟩;have hplt:=HBm.o.lt;have HD3:=aba od;have HA3:=aba oa;have HB3:=aba (HBm.o.any k9);have HO3:=aba (HOm.o.any k9);have HK3:=aba (HKZ.o.trans k9);have HZ3:=aba (HZB.o.ae k9);have HL3:=aba (HLZ.o.trans (dM k9 (Nat.le_trans (Nat.le_refl X.heap.size) HLZ.o.size)));clear od oa k9 i0;have i10:=HZ3.o.cell (i:=10) rfl;obtain⟨u0,u1,u2,u3,u4,u5,u6,u7,u8,u9,u10,u11,u12,u13,u14,u15⟩:=HB3.o.cells;have q0:=HB3.o.frozen 0;have q1:=HB3.o.frozen 1;have q2:=HB3.o.frozen 2;have q3:=HB3.o.frozen 3;have q4:=HB3.o.frozen 4;have q5:=HB3.o.frozen 5;have q6:=HB3.o.frozen 6;have q7:=HB3.o.frozen 7;have q10:=HB3.o.frozen 10)|(go_at_call 109;refine(vP _ c a b e q ca cb ce cq HA.o HB.o HE.o HQ.o h4 h5 hbx hl hbm).mono ?_;rintro e9 W1⟨mid,p,g2,rfl,hm9,hp9,k9⟩;have HM1:=aba hm9;have HK1:=aba k9;have HP1:=aba hp9;have HL1:=aba (dM k9 (Nat.le_refl X.heap.size));obtain⟨_,_,_,_,_,_,_,hB9,_⟩:=hm9;have hpw1:=hB9.lt;have t3:=(MB.cells hB9).2.2.2.1;clear hp9 k9 hB9)|(go_at_call 135;refine(yB _ X.heap.size mid W1.heap.size p g2 (Mc.ofC c) HM1.o HG.o).mono ?_;rintro e9 W2⟨rfl,g3,hm9,hb9⟩;have HM2:=aba hm9;have HS2:=aba hb9;have HL2:=aba (HL1.o.trans (jm hb9 HM1.o.xy HL1.o.size));clear hm9 hb9 t3;unfold nH;have KZ:=kept_alloc W2 (.cells #[iv (Mc.ofC c).aG.op,iv (Mc.ofC c).aG.z,iv (Mc.ofC c).aG.r,iv (Mc.ofC c).aG.m,iv (Mc.ofC c).aG.k,iv (Mc.ofC c).aG.e,iv (Mc.ofC c).aG.s] 48);have BZ:=Blk.new W2 #[iv (Mc.ofC c).aG.op,iv (Mc.ofC c).aG.z,iv (Mc.ofC c).aG.r,iv (Mc.ofC c).aG.m,iv (Mc.ofC c).aG.k,iv (Mc.ofC c).aG.e,iv (Mc.ofC c).aG.s] 48;obtain⟨Z,hZ⟩:∃Z:World,W2.alloc (.cells #[iv (Mc.ofC c).aG.op,iv (Mc.ofC c).aG.z,iv (Mc.ofC c).aG.r,iv (Mc.ofC c).aG.m,iv (Mc.ofC c).aG.k,iv (Mc.ofC c).aG.e,iv (Mc.ofC c).aG.s] 48)=Z:=⟨_,rfl⟩;rw[hZ]at KZ BZ;have HBZ:=aba BZ;have HMZ:=aba (HM2.o.any KZ);have HLZ:=aba (HL2.o.trans (dM KZ (Nat.le_trans (Nat.le_refl X.heap.size) HL2.o.size)));have HKZ:=aba (fA K0.o HLZ.o K0.o.size);clear KZ BZ;have HZB:=aba (HB0.o.below HLZ.o HBL.o);clear i0;have i0:=HZB.o.cell (i:=0) rfl;have i1:=HZB.o.cell (i:=1) rfl;have i2:=HZB.o.cell (i:=2) rfl;have i3:=HZB.o.cell (i:=3) rfl;have i4:=HZB.o.cell (i:=4) rfl;have i5:=HZB.o.cell (i:=5) rfl;have i6:=HZB.o.cell (i:=6) rfl;have i7:=HZB.o.cell (i:=7) rfl;have i8:=HZB.o.cell (i:=8) rfl;have i9:=HZB.o.cell (i:=9) rfl;have i10:=HZB.o.cell (i:=10) rfl;have i11:=HZB.o.cell (i:=11) rfl;have hzm:=HMZ.o;obtain⟨gd,cd,ga,cA,g1,c1,c2,hB9,hO9⟩:=hzm;have HBm:=aba hB9;have HOm:=aba hO9;have hpz:=hB9.lt;clear hB9 hO9));have hd3:=HD3.o.lt (by rw[h4];decide);have KP:=(MB.lN (w:=W3) (p:=p) (.slice (some (abb gd' 0)) 4 cd') (.slice (some (abb ga' 0)) 4 ca') (iv c.r.o) (iv c.r.p) (iv c.r.f) (iv c.r.m) (.bool c.r.s) (.bool c.r.t)).one 10 (.bool c.st);have MY:MB (((((((((W3.setCell (abb p 0) ((.slice (some (abb gd' 0)) 4 cd'))).setCell (abb p 1) ((.slice (some (abb ga' 0)) 4 ca'))).setCell (abb p 2) ((iv c.r.o))).setCell (abb p 3) ((iv c.r.p))).setCell (abb p 4) ((iv c.r.f))).setCell (abb p 5) ((iv c.r.m))).setCell (abb p 6) ((.bool c.r.s))).setCell (abb p 7) ((.bool c.r.t))).setCell (abb p 10) (.bool c.st)) p gd' cd' ga' ca' g1 c1 g3 c2 {((Mc.ofC c).fetch.bC c.r) with st:=c.st}:=(HB3.o.laid2 c.r gd' cd' ga' ca').cSt c.st;generalize (((((((((W3.setCell (abb p 0) ((.slice (some (abb gd' 0)) 4 cd'))).setCell (abb p 1) ((.slice (some (abb ga' 0)) 4 ca'))).setCell (abb p 2) ((iv c.r.o))).setCell (abb p 3) ((iv c.r.p))).setCell (abb p 4) ((iv c.r.f))).setCell (abb p 5) ((iv c.r.m))).setCell (abb p 6) ((.bool c.r.s))).setCell (abb p 7) ((.bool c.r.t))).setCell (abb p 10) (.bool c.st))=Y at KP MY ⊢;have hop:=HO3.o.p0;have hob:=HO3.o.b0;have hog:=HO3.o.g2;have hobl:=HO3.o.pb;have hopl:=HO3.o.pl;have hos:=HO3.o.d0;have hos2:=HO3.o.d1;have HYd:=aba (HD3.o.ag KP (by omega)).row;have HYa:=aba (HA3.o.ag KP (by omega)).row;have HYb:=aba (HO3.o.b.ag KP (by omega)).row;have HYl:=aba ((cZ HO3.o.l).ag KP (by omega)).row;have KDY:=aba (ai (Kept.refl 0 0 Y));have HMY:=aba (MY.any KDY.o);have LY:=aba ((HL3.o.trans (tV KP (by omega) (by have:=HL3.o.size;omega))).drew);have HKY:=aba (fA K0.o LY.o K0.o.size);have Oe:=aba (HB1.o.below LY.o (by have:=HXS.o;omega));have Oc:=aba (HB2.o.below LY.o (by have:=HXS.o;omega));have HN1:Hid (¬(w.heap.size+1<=p/\p<w.heap.size+1+1)):=aba (by have:=HXS.o;omega);have HN2:Hid (¬(w.heap.size+1+1<=p/\p<w.heap.size+1+1+1)):=aba (by have:=HXS.o;omega);have CF:∀W:World,MB W p gd' cd' ga' ca' g1 c1 g3 c2 {((Mc.ofC c).fetch.bC c.r) with st:=c.st}->W.cell? (abb p 11)=some (iv (Mc.ofC c).fetch.f.v)/\W.cell? (abb p 12)=some (iv (Mc.ofC c).fetch.f.pc)/\W.cell? (abb p 13)=some (iv (Mc.ofC c).fetch.f.ad)/\W.cell? (abb p 14)=some (iv (Mc.ofC c).fetch.f.wo)/\W.cell? (abb p 15)=some (.bool (Mc.ofC c).fetch.f.wr):=fun W h=>by have z:=Dq h;exact z
 have SY:=CF _ HMY.o;have hyz:X.heap.size<=Y.drew.heap.size:=LY.o.size;clear KP MY;go_region_held3 (fun w'=>w'.cell? (abb p 11)=some (iv (Mc.ofC c).fetch.f.v)/\w'.cell? (abb p 12)=some (iv (Mc.ofC c).fetch.f.pc)/\w'.cell? (abb p 13)=some (iv (Mc.ofC c).fetch.f.ad)/\w'.cell? (abb p 14)=some (iv (Mc.ofC c).fetch.f.wo)/\w'.cell? (abb p 15)=some (.bool (Mc.ofC c).fetch.f.wr)) (first|with_reducible exact SY|with_reducible exact S4|with_reducible exact CF _ (HM4.o.sO HN1.o _ _ _ _ _ _ _ _ _ _ _ _)|with_reducible exact CF _ ((HM4.o.sO HN1.o _ _ _ _ _ _ _ _ _ _ _ _).Jv HN2.o _ _ _ _ _)|go_keep) (first|(go_at_call 113;refine(En _ p gd' cd' ga' ca' g1 c1 g3 c2 {((Mc.ofC c).fetch.bC c.r) with st:=c.st} HMY.o (HYd.o.ag KDY.o) (HYa.o.ag KDY.o) (HYb.o.ag KDY.o) (HYl.o.ag KDY.o) h4 h5 HGf.o.bx HGf.o.bl HGf.o.bm).mono ?_;unfold eP;rintro e9 W4⟨gd4,cd4,ga4,ca4,g14,c14,g24,c24,mid4,rfl,hc9,k9⟩;have HC:=aba hc9;have HM4:=aba (HMY.o.any k9);have S4:=CF _ HM4.o;have HK4:=aba (HKY.o.trans k9);have aX:=aba (Oe.o.ae k9);have fB:=aba (Oc.o.ae k9);have hs4:=fB.o.lt;clear hc9 k9;have o0:=aX.o.cell (i:=0) rfl;have of0:=aX.o.frozen 0;have o1:=aX.o.cell (i:=1) rfl;have of1:=aX.o.frozen 1;have o2:=aX.o.cell (i:=2) rfl;have of2:=aX.o.frozen 2;have o3:=aX.o.cell (i:=3) rfl;have of3:=aX.o.frozen 3;have o4:=aX.o.cell (i:=4) rfl;have of4:=aX.o.frozen 4;have o5:=aX.o.cell (i:=5) rfl;have of5:=aX.o.frozen 5;have o6:=aX.o.cell (i:=6) rfl;have of6:=aX.o.frozen 6;have o7:=aX.o.cell (i:=7) rfl;have of7:=aX.o.frozen 7;have o8:=aX.o.cell (i:=8) rfl;have of8:=aX.o.frozen 8;have o9:=aX.o.cell (i:=9) rfl;have of9:=aX.o.frozen 9;have o10:=aX.o.cell (i:=10) rfl;have of10:=aX.o.frozen 10;have o11:=aX.o.cell (i:=11) rfl;have of11:=aX.o.frozen 11;have y0:=fB.o.cell (i:=0) rfl;have yf0:=fB.o.frozen 0;have y1:=fB.o.cell (i:=1) rfl;have yf1:=fB.o.frozen 1;have y2:=fB.o.cell (i:=2) rfl;have yf2:=fB.o.frozen 2;have y3:=fB.o.cell (i:=3) rfl;have yf3:=fB.o.frozen 3;have y4:=fB.o.cell (i:=4) rfl;have yf4:=fB.o.frozen 4));go_wp2_with fail;have hxs:=HXS.o;refine bodyPost_ret (v:=.tuple #[.agg (eP (dm c) gd4 cd4 ga4 ca4 g14 c14 g24 c24),.agg (ftC (fE c))]) ?_ rfl ⟨gd4,cd4,ga4,ca4,g14,c14,g24,c24,mid4,rfl,?co,?kw⟩
 case co=>
  rw[EC.o];refine HC.o.DZ (x:=w.heap.size+1) (y:=w.heap.size+3) (by omega) (by omega) ?_;repeat (first|with_reducible exact Kept.refl _ _ _|refine af ?_ _ _ _ (.inl (by omega)))
 case kw=>repeat (first|with_reducible exact HK4.o|refine af ?_ _ _ _ (.inr (by omega)))
 rw[jS rfl,EC.o,EF.o];go_simp;exact⟨rfl,rfl⟩
theorem Pl.pV {c:Mc} (h:c.fetch.fine=true):bP c.aG=true/\(c.dh=1\/c.dh=2):=by
 unfold Mc.fetch at h;cases h1:c.fe1.fine
 ·rw[h1]at h;simp only[Bool.not_false,cond_true]at h;rw[h1]at h;cases h
 ·cases h3:c.fe3.fine
  ·rw[h1,h3]at h;simp only[Bool.not_true,Bool.not_false,cond_true,cond_false]at h;rw[h3]at h;cases h
  ·cases ho:bP c.feX
   ·rw[h1,h3,ho]at h;simp only[Bool.not_true,Bool.not_false,cond_true,cond_false]at h;exact absurd h (by unfold Mc.fine Mc.fe4;simp)
   ·refine⟨?_,?_⟩
    ·unfold Mc.aG;rw[h1,h3,ho];exact ho
    ·unfold Mc.dh;rw[h1,h3,ho];show dX c.feW=1\/dX c.feW=2;unfold dX;split
     ·exact .inr rfl
     ·exact .inl rfl
theorem CQ (w:World) (c:Cp) (a b e q:Option Addr) (ca cb ce cq:Nat) (ha:aF w a c.r.xs) (hb:aF w b c.r.ys) (he:aF w e c.bx) (hq:aF w q c.bl) (hok:dY c=true) (hl:c.bl.length=5*c.bm) (hf:(Mc.ofC c).fetch.fine=true) (hp:jo (Mc.ofC c).aG=true) (hs:(Mc.ofC c).fetch.r.s=false) :
  Calls prog 82 #[.agg #[.slice a 4 ca,.slice b 4 cb,iv c.r.o,iv c.r.p,iv c.r.f,iv c.r.m,.bool c.r.s,.bool c.r.t,.slice e 512 ce,.slice q c.bm cq,.bool c.st,.bool c.ha]] w fun r w'=>∃gd cd ga cA g1 c1 g2 c2 mid:Nat,r=.returned (.tuple #[.agg (eP (dm c) gd cd ga cA g1 c1 g2 c2),.agg (ftC (fE c))])/\CO w' w.heap.size mid (dm c) gd ga g1 g2 c2/\Kept 0 0 w w':=by
 have HG:=aba (GM.of hok hl c.st);have h4:=HG.o.g.d4;have h5:=HG.o.g.a4;have hbx:=HG.o.bx;have hbm:=HG.o.bm;have K0:=aba (ah (ah (kept_alloc w (.cells #[.slice a 4 ca,.slice b 4 cb,iv c.r.o,iv c.r.p,iv c.r.f,iv c.r.m,.bool c.r.s,.bool c.r.t,.slice e 512 ce,.slice q c.bm cq,.bool c.st,.bool c.ha] 40)) (.cells cpZ 40)) (.cells ftZ 42));have B0:=((Blk.new w #[.slice a 4 ca,.slice b 4 cb,iv c.r.o,iv c.r.p,iv c.r.f,iv c.r.m,.bool c.r.s,.bool c.r.t,.slice e 512 ce,.slice q c.bm cq,.bool c.st,.bool c.ha] 40).alloc (.cells cpZ 40)).alloc (.cells ftZ 42);have B1:=(Blk.new (w.alloc (.cells #[.slice a 4 ca,.slice b 4 cb,iv c.r.o,iv c.r.p,iv c.r.f,iv c.r.m,.bool c.r.s,.bool c.r.t,.slice e 512 ce,.slice q c.bm cq,.bool c.st,.bool c.ha] 40)) cpZ 40).alloc (.cells ftZ 42);have B2:=Blk.new ((w.alloc (.cells #[.slice a 4 ca,.slice b 4 cb,iv c.r.o,iv c.r.p,iv c.r.f,iv c.r.m,.bool c.r.s,.bool c.r.t,.slice e 512 ce,.slice q c.bm cq,.bool c.st,.bool c.ha] 40)).alloc (.cells cpZ 40)) ftZ 42;simp only[World.size_alloc]at B1 B2;obtain⟨X,hX⟩:∃X:World,((w.alloc (.cells #[.slice a 4 ca,.slice b 4 cb,iv c.r.o,iv c.r.p,iv c.r.f,iv c.r.m,.bool c.r.s,.bool c.r.t,.slice e 512 ce,.slice q c.bm cq,.bool c.st,.bool c.ha] 40)).alloc (.cells cpZ 40)).alloc (.cells ftZ 42)=X:=⟨_,rfl⟩
 rw[hX]at K0 B0 B1 B2;have hxs:X.heap.size=w.heap.size+3:=by rw[<-hX];simp
 have HXS:=aba hxs;have HB0:=aba B0;have HB1:=aba B1;have HB2:=aba B2;have HA:=aba (ha.ag K0.o);have HB:=aba (hb.ag K0.o);have HE:=aba (he.ag K0.o);have HQ:=aba (hq.ag K0.o);have HAw:=aba ha;have HBw:=aba hb;clear B0 B1 B2 ha hb he hq hxs;have i0:=HB0.o.all;have HGf:Hid (GM ((Mc.ofC c).fetch.vec 8)):=aba ((GM.fetch HG.o).ft _);have hf8:((Mc.ofC c).fetch.vec 8).fine=false:=rfl
 have ES:Pl.stepM c=(Mc.ofC c).fetch.vec 8:=by
  have e1:(Mc.ofC c).s1=(Mc.ofC c).fetch.vec 8:=by unfold Mc.s1;rw[hf,hp,hs];rfl
  unfold Pl.stepM Mc.s2;rw[e1,hf8];rfl
 have EC:Hid (dm c=Mc.cpu {(((Mc.ofC c).fetch.vec 8).bC c.r) with st:=c.st} false):=aba (by unfold dm;rw[ES,hf8];rfl);have EF:Hid (fE c=((Mc.ofC c).fetch.vec 8).f):=aba (by unfold fE;rw[ES,hf8];rfl);have HBL:Hid (w.heap.size<X.heap.size):=aba (by have:=HXS.o;omega);have HPV:Hid (jo ⟨(Mc.ofC c).aG.op,(Mc.ofC c).aG.z,(Mc.ofC c).aG.r,(Mc.ofC c).aG.m,(Mc.ofC c).aG.k,(Mc.ofC c).aG.e,(Mc.ofC c).aG.s⟩=true):=aba hp;clear ES hp;go_enter func82,ntmps82;go_wp2_with (first|(go_at_call 112;have z9:=HBn;refine st (bY _ X.heap.size mid W1.heap.size p g3 _ HMn.o) ?_;rw[hf8])|(go_at_call 112;have z9:=HBm;refine st (bY _ X.heap.size mid W1.heap.size p g3 _ HMZ.o) ?_;rw[hf])|(go_at_call 114;have z9:=HBn;refine(own4 _ c.r a b ca cb (HAw.o.ag HKn.o) (HBw.o.ag HKn.o) h4 h5).mono ?_;unfold jK;rintro e9 W3⟨gd',cd',ga',ca',rfl,od,oa,d0,d1,a0,a1,da,k9⟩;have hplt:=HBn.o.lt;have HD3:=aba od;have HA3:=aba oa;have HB3:=aba (HBn.o.any k9);have HO3:=aba (HOn.o.any k9);have HK3:=aba (HKn.o.trans k9);have HZ3:=aba (HZn.o.ae k9);have HL3:=aba (HLn.o.trans (dM k9 (Nat.le_trans (Nat.le_refl X.heap.size) HLn.o.size)));clear od oa k9 i0;have i10:=HZ3.o.cell (i:=10) rfl;obtain⟨u0,u1,u2,u3,u4,u5,u6,u7,u8,u9,u10,u11,u12,u13,u14,u15⟩:=HB3.o.cells;have q0:=HB3.o.frozen 0;have q1:=HB3.o.frozen 1;have q2:=HB3.o.frozen 2;have q3:=HB3.o.frozen 3;have q4:=HB3.o.frozen 4;have q5:=HB3.o.frozen 5;have q6:=HB3.o.frozen 6;have q7:=HB3.o.frozen 7;have q10:=HB3.o.frozen 10)|(go_at_call 109;refine(vP _ c a b e q ca cb ce cq HA.o HB.o HE.o HQ.o h4 h5 hbx hl hbm).mono ?_;rintro e9 W1⟨mid,p,g2,rfl,hm9,hp9,k9⟩;have HM1:=aba hm9;have HK1:=aba k9;have HP1:=aba hp9;have HL1:=aba (dM k9 (Nat.le_refl X.heap.size));obtain⟨_,_,_,_,_,_,_,hB9,_⟩:=hm9;have hpw1:=hB9.lt;have t3:=(MB.cells hB9).2.2.2.1;clear hp9 k9 hB9)|(go_at_call 135;refine(yB _ X.heap.size mid W1.heap.size p g2 (Mc.ofC c) HM1.o HG.o).mono ?_;rintro e9 W2⟨rfl,g3,hm9,hb9⟩;have HM2:=aba hm9;have HS2:=aba hb9;have HL2:=aba (HL1.o.trans (jm hb9 HM1.o.xy HL1.o.size));clear hm9 hb9 t3;unfold nH;have KZ:=kept_alloc W2 (.cells #[iv (Mc.ofC c).aG.op,iv (Mc.ofC c).aG.z,iv (Mc.ofC c).aG.r,iv (Mc.ofC c).aG.m,iv (Mc.ofC c).aG.k,iv (Mc.ofC c).aG.e,iv (Mc.ofC c).aG.s] 48);have BZ:=Blk.new W2 #[iv (Mc.ofC c).aG.op,iv (Mc.ofC c).aG.z,iv (Mc.ofC c).aG.r,iv (Mc.ofC c).aG.m,iv (Mc.ofC c).aG.k,iv (Mc.ofC c).aG.e,iv (Mc.ofC c).aG.s] 48;obtain⟨Z,hZ⟩:∃Z:World,W2.alloc (.cells #[iv (Mc.ofC c).aG.op,iv (Mc.ofC c).aG.z,iv (Mc.ofC c).aG.r,iv (Mc.ofC c).aG.m,iv (Mc.ofC c).aG.k,iv (Mc.ofC c).aG.e,iv (Mc.ofC c).aG.s] 48)=Z:=⟨_,rfl⟩;rw[hZ]at KZ BZ;have HBZ:=aba BZ;have HMZ:=aba (HM2.o.any KZ);have HLZ:=aba (HL2.o.trans (dM KZ (Nat.le_trans (Nat.le_refl X.heap.size) HL2.o.size)));have HKZ:=aba (fA K0.o HLZ.o K0.o.size);clear KZ BZ;have HZB:=aba (HB0.o.below HLZ.o HBL.o);clear i0;have i0:=HZB.o.cell (i:=0) rfl;have i1:=HZB.o.cell (i:=1) rfl;have i2:=HZB.o.cell (i:=2) rfl;have i3:=HZB.o.cell (i:=3) rfl;have i4:=HZB.o.cell (i:=4) rfl;have i5:=HZB.o.cell (i:=5) rfl;have i6:=HZB.o.cell (i:=6) rfl;have i7:=HZB.o.cell (i:=7) rfl;have i8:=HZB.o.cell (i:=8) rfl;have i9:=HZB.o.cell (i:=9) rfl;have i10:=HZB.o.cell (i:=10) rfl;have i11:=HZB.o.cell (i:=11) rfl;have hzm:=HMZ.o;obtain⟨gd,cd,ga,cA,g1,c1,c2,hB9,hO9⟩:=hzm;have HBm:=aba hB9;have HOm:=aba hO9;have hpz:=hB9.lt;clear hB9 hO9;have x0:=HBZ.o.all;have hzx:=HBZ.o.lt;have HLP:Hid (X.heap.size<=p):=HP1;have HNP:Hid (w.heap.size≠p):=aba (by have:=HBL.o;have:=HP1.o;omega))|(go_at_call 110;have z9:=HBm;refine(uY _ (Mc.ofC c).aG.op (Mc.ofC c).aG.z (Mc.ofC c).aG.r (Mc.ofC c).aG.m (Mc.ofC c).aG.k (Mc.ofC c).aG.e (Mc.ofC c).aG.s).mono ?_;rintro e9 W5⟨rfl,k9⟩;rw[HPV.o];have HM5:=aba (HMZ.o.any k9);have HB5:=aba (HBm.o.any k9);have HO5:=aba (HOm.o.any k9);have HZ5:=aba (HZB.o.ae k9);have HL5:=aba (HLZ.o.trans (dM k9 (Nat.le_trans (Nat.le_refl X.heap.size) HLZ.o.size)));have HK5:=aba (HKZ.o.trans k9);have HX5:=aba (HBZ.o.ae k9);clear k9 x0 i0;have i0:=HZ5.o.cell (i:=0) rfl;have i1:=HZ5.o.cell (i:=1) rfl;have i2:=HZ5.o.cell (i:=2) rfl;have i3:=HZ5.o.cell (i:=3) rfl;have i4:=HZ5.o.cell (i:=4) rfl;have i5:=HZ5.o.cell (i:=5) rfl;have i6:=HZ5.o.cell (i:=6) rfl;have i7:=HZ5.o.cell (i:=7) rfl;have i8:=HZ5.o.cell (i:=8) rfl;have i9:=HZ5.o.cell (i:=9) rfl;have i10:=HZ5.o.cell (i:=10) rfl;have i11:=HZ5.o.cell (i:=11) rfl;have x0:=HX5.o.all;obtain⟨t0,t1,t2,t3,t4,t5,t6,t7,t8,t9,t10,t11,_⟩:=HB5.o.cells;have f11:=HB5.o.frozen 11;have f3:=HB5.o.frozen 3;have hpw5:=HB5.o.lt;clear t0 t1 t2 t4 t5 t7 t8 t9 t10;rw[hs]at t6;have HBn:Hid (MB (W5.setCell (abb p 11) (iv 8)) p gd cd ga cA g1 c1 g3 c2 ((Mc.ofC c).fetch.vec 8)):=aba (HB5.o.cV 8);have KPn:=aba (ak W5 p 11 (iv 8));have HOn:=aba (HO5.o.own KPn.o);have HMn:Hid (MAt (W5.setCell (abb p 11) (iv 8)) X.heap.size mid W1.heap.size p g3 ((Mc.ofC c).fetch.vec 8)):=aba (HM5.o.cV 8);have HLn:=aba (HL5.o.setCell (p:=(abb p 11)) HLP.o (iv 8));have HKn:=aba (fA K0.o HLn.o K0.o.size);have HZn:=aba (HZ5.o.other p 11 (iv 8) HNP.o)));have hd3:=HD3.o.lt (by rw[h4];decide);have KP:=(MB.lN (w:=W3) (p:=p) (.slice (some (abb gd' 0)) 4 cd') (.slice (some (abb ga' 0)) 4 ca') (iv c.r.o) (iv c.r.p) (iv c.r.f) (iv c.r.m) (.bool c.r.s) (.bool c.r.t)).one 10 (.bool c.st);have MY:MB (((((((((W3.setCell (abb p 0) ((.slice (some (abb gd' 0)) 4 cd'))).setCell (abb p 1) ((.slice (some (abb ga' 0)) 4 ca'))).setCell (abb p 2) ((iv c.r.o))).setCell (abb p 3) ((iv c.r.p))).setCell (abb p 4) ((iv c.r.f))).setCell (abb p 5) ((iv c.r.m))).setCell (abb p 6) ((.bool c.r.s))).setCell (abb p 7) ((.bool c.r.t))).setCell (abb p 10) (.bool c.st)) p gd' cd' ga' ca' g1 c1 g3 c2 {(((Mc.ofC c).fetch.vec 8).bC c.r) with st:=c.st}:=(HB3.o.laid2 c.r gd' cd' ga' ca').cSt c.st;generalize (((((((((W3.setCell (abb p 0) ((.slice (some (abb gd' 0)) 4 cd'))).setCell (abb p 1) ((.slice (some (abb ga' 0)) 4 ca'))).setCell (abb p 2) ((iv c.r.o))).setCell (abb p 3) ((iv c.r.p))).setCell (abb p 4) ((iv c.r.f))).setCell (abb p 5) ((iv c.r.m))).setCell (abb p 6) ((.bool c.r.s))).setCell (abb p 7) ((.bool c.r.t))).setCell (abb p 10) (.bool c.st))=Y at KP MY ⊢;have hop:=HO3.o.p0;have hob:=HO3.o.b0;have hog:=HO3.o.g2;have hobl:=HO3.o.pb;have hopl:=HO3.o.pl;have hos:=HO3.o.d0;have hos2:=HO3.o.d1;have HYd:=aba (HD3.o.ag KP (by omega)).row;have HYa:=aba (HA3.o.ag KP (by omega)).row;have HYb:=aba (HO3.o.b.ag KP (by omega)).row;have HYl:=aba ((cZ HO3.o.l).ag KP (by omega)).row;have KDY:=aba (ai (Kept.refl 0 0 Y));have HMY:=aba (MY.any KDY.o);have LY:=aba ((HL3.o.trans (tV KP (by omega) (by have:=HL3.o.size;omega))).drew);have HKY:=aba (fA K0.o LY.o K0.o.size);have Oe:=aba (HB1.o.below LY.o (by have:=HXS.o;omega));have Oc:=aba (HB2.o.below LY.o (by have:=HXS.o;omega));have HN1:Hid (¬(w.heap.size+1<=p/\p<w.heap.size+1+1)):=aba (by have:=HXS.o;omega);have HN2:Hid (¬(w.heap.size+1+1<=p/\p<w.heap.size+1+1+1)):=aba (by have:=HXS.o;omega);have CF:∀W:World,MB W p gd' cd' ga' ca' g1 c1 g3 c2 {(((Mc.ofC c).fetch.vec 8).bC c.r) with st:=c.st}->W.cell? (abb p 11)=some (iv ((Mc.ofC c).fetch.vec 8).f.v)/\W.cell? (abb p 12)=some (iv ((Mc.ofC c).fetch.vec 8).f.pc)/\W.cell? (abb p 13)=some (iv ((Mc.ofC c).fetch.vec 8).f.ad)/\W.cell? (abb p 14)=some (iv ((Mc.ofC c).fetch.vec 8).f.wo)/\W.cell? (abb p 15)=some (.bool ((Mc.ofC c).fetch.vec 8).f.wr):=fun W h=>by have z:=Dq h;exact z
 have SY:=CF _ HMY.o;have hyz:X.heap.size<=Y.drew.heap.size:=LY.o.size;clear KP MY;go_region_held3 (fun w'=>w'.cell? (abb p 11)=some (iv ((Mc.ofC c).fetch.vec 8).f.v)/\w'.cell? (abb p 12)=some (iv ((Mc.ofC c).fetch.vec 8).f.pc)/\w'.cell? (abb p 13)=some (iv ((Mc.ofC c).fetch.vec 8).f.ad)/\w'.cell? (abb p 14)=some (iv ((Mc.ofC c).fetch.vec 8).f.wo)/\w'.cell? (abb p 15)=some (.bool ((Mc.ofC c).fetch.vec 8).f.wr)) (first|with_reducible exact SY|with_reducible exact S4|with_reducible exact CF _ (HM4.o.sO HN1.o _ _ _ _ _ _ _ _ _ _ _ _)|with_reducible exact CF _ ((HM4.o.sO HN1.o _ _ _ _ _ _ _ _ _ _ _ _).Jv HN2.o _ _ _ _ _)|go_keep) (first|(go_at_call 113;refine(En _ p gd' cd' ga' ca' g1 c1 g3 c2 {(((Mc.ofC c).fetch.vec 8).bC c.r) with st:=c.st} HMY.o (HYd.o.ag KDY.o) (HYa.o.ag KDY.o) (HYb.o.ag KDY.o) (HYl.o.ag KDY.o) h4 h5 HGf.o.bx HGf.o.bl HGf.o.bm).mono ?_;unfold eP;rintro e9 W4⟨gd4,cd4,ga4,ca4,g14,c14,g24,c24,mid4,rfl,hc9,k9⟩;have HC:=aba hc9;have HM4:=aba (HMY.o.any k9);have S4:=CF _ HM4.o;have HK4:=aba (HKY.o.trans k9);have aX:=aba (Oe.o.ae k9);have fB:=aba (Oc.o.ae k9);have hs4:=fB.o.lt;clear hc9 k9;have o0:=aX.o.cell (i:=0) rfl;have of0:=aX.o.frozen 0;have o1:=aX.o.cell (i:=1) rfl;have of1:=aX.o.frozen 1;have o2:=aX.o.cell (i:=2) rfl;have of2:=aX.o.frozen 2;have o3:=aX.o.cell (i:=3) rfl;have of3:=aX.o.frozen 3;have o4:=aX.o.cell (i:=4) rfl;have of4:=aX.o.frozen 4;have o5:=aX.o.cell (i:=5) rfl;have of5:=aX.o.frozen 5;have o6:=aX.o.cell (i:=6) rfl;have of6:=aX.o.frozen 6;have o7:=aX.o.cell (i:=7) rfl;have of7:=aX.o.frozen 7;have o8:=aX.o.cell (i:=8) rfl;have of8:=aX.o.frozen 8;have o9:=aX.o.cell (i:=9) rfl;have of9:=aX.o.frozen 9;have o10:=aX.o.cell (i:=10) rfl;have of10:=aX.o.frozen 10;have o11:=aX.o.cell (i:=11) rfl;have of11:=aX.o.frozen 11;have y0:=fB.o.cell (i:=0) rfl;have yf0:=fB.o.frozen 0;have y1:=fB.o.cell (i:=1) rfl;have yf1:=fB.o.frozen 1;have y2:=fB.o.cell (i:=2) rfl;have yf2:=fB.o.frozen 2;have y3:=fB.o.cell (i:=3) rfl;have yf3:=fB.o.frozen 3;have y4:=fB.o.cell (i:=4) rfl;have yf4:=fB.o.frozen 4));go_wp2_with fail;have hxs:=HXS.o;refine bodyPost_ret (v:=.tuple #[.agg (eP (dm c) gd4 cd4 ga4 ca4 g14 c14 g24 c24),.agg (ftC (fE c))]) ?_ rfl ⟨gd4,cd4,ga4,ca4,g14,c14,g24,c24,mid4,rfl,?co,?kw⟩
 case co=>
  rw[EC.o];refine HC.o.DZ (x:=w.heap.size+1) (y:=w.heap.size+3) (by omega) (by omega) ?_;repeat (first|with_reducible exact Kept.refl _ _ _|refine af ?_ _ _ _ (.inl (by omega)))
 case kw=>repeat (first|with_reducible exact HK4.o|refine af ?_ _ _ _ (.inr (by omega)))
 rw[jS rfl,EC.o,EF.o];go_simp;exact⟨rfl,rfl⟩
end Go.Proofs.YtgikibaajanjiaaGreatDoor
namespace Go.Proofs.YtgikibaajanjiaaGreatDoor.Pl
set_option linter.unusedVariables false
theorem Ns {z f a b:Int} (ha:okv z a=true) (hb:okv z b=true) (hf:flags f=true):0<=og z f a b/\og z f a b<=31:=by
 obtain⟨f0,f1⟩:=rP hf;obtain⟨j,hj,rfl⟩:=pF (n:=32) f0 (by omega);have hs:=ni z 0 a b;obtain⟨i,hi,he⟩:=pF (n:=32) hs.1 (by omega);unfold og;rw[if_pos (by rw[uT ha hb,hf];rfl),he];have q:∀i:Nat,i<32->∀j:Nat,j<32->0<=bits .or .i64 (bits .and .i64 (i:Int) 15) (bits .and .i64 (j:Int) 16)/\bits .or .i64 (bits .and .i64 (i:Int) 15) (bits .and .i64 (j:Int) 16)<=31:=by decide +kernel
 exact q i hi j hj
theorem GM.two {c:Mc} (h:GM c) {x:In} (B:InB x) (h1:x.m=1->x.z=2):GM (c.two x):=by
 have hr:=h.read (m:=x.m) B.z B.k0 B.k1 B.e0 B.e1;have hv:=fH h B.z B.k0 B.k1 B.e0 B.e1 h1 B.n7;have hq:=iH hr B.z B.r0 B.r1;unfold Mc.two;cases (c.read x.z x.m x.k x.e).fine
 ·exact hr
 ·show GM (Mc.two' _ x _ _)
  unfold Mc.two';have c8:=Ns hq hv (di hr);have a3:=Fe x.z 0 ((c.read x.z x.m x.k x.e).low x.z x.r) (c.bH x.z x.m x.k x.e);have s4:=ni x.z 0 ((c.read x.z x.m x.k x.e).low x.z x.r) (c.bH x.z x.m x.k x.e);have bb:=rH hq hv;cases x.op==8
  ·cases x.op==3
   ·cases x.op==4
    ·cases x.op==5
     ·cases x.op==6
      ·cases x.op==7
       ·exact hr.data B.r0 B.r1 hv
       ·exact hr.data B.r0 B.r1 bb.2.2
      ·exact hr.data B.r0 B.r1 bb.2.1
     ·exact hr.data B.r0 B.r1 bb.1
    ·exact(hr.aJ s4.1 s4.2).put B.r0 B.r1 (mD B.z)
   ·exact(hr.aJ a3.1 a3.2).put B.r0 B.r1 (vM hq)
  ·exact hr.aJ c8.1 c8.2
theorem oW {c:Mc} (h:GM c) {z m k e:Int} (k0:0<=k) (k1:k<=3) (e0:0<=e) (e1:e<=65535):0<=c.readA z m k e/\c.readA z m k e<=65535:=by
 unfold Mc.readA;cases Mc.gK m
 ·exact ji h.g k0 k1 e0 e1
 ·exact⟨Int.le_refl 0,(by decide:(0:Int)<=65535)⟩
theorem GM.one {c:Mc} (h:GM c) {x:In} (B:InB x) (hm:x.m≠1):GM (c.one x):=by
 have hr:=h.read (m:=x.m) B.z B.k0 B.k1 B.e0 B.e1;have hv:=fH h B.z B.k0 B.k1 B.e0 B.e1 (fun q=>absurd q hm) B.n7;have ha:=oW (m:=x.m) (z:=x.z) h B.k0 B.k1 B.e0 B.e1;have hp:=nC (m:=x.m) (z:=x.z) h B.k0 B.k1 B.e0 B.e1;have z0:okv x.z 0=true:=by rcases B.z with q|q<;>rw[q]<;>decide
 have ht:=aS hv
 have hn:okv x.z (top x.z-1-c.bH x.z x.m x.k x.e)=true:=by
  unfold okv;simp only[Bool.and_eq_true,Bool.or_eq_true,decide_eq_true_eq];exact⟨B.z,by omega,by omega⟩
 have f0:=gq x.z c.r.f 0 z0 (di h);have f1:=gq x.z c.r.f _ hv (di h);have f2:=gq x.z c.r.f _ hn (di h);have fs:=ni x.z 0 0 (c.bH x.z x.m x.k x.e);unfold Mc.one;cases x.s==0
 ·cases (c.read x.z x.m x.k x.e).fine
  ·exact hr
  ·show GM (Mc.one' c _ x _ _)
   unfold Mc.one';cases x.s==1
   ·cases x.s==2
    ·exact hr.aJ f1.1 f1.2
    ·exact(hr.write B.k0 B.k1 ha.1 ha.2 hn).aJ f2.1 f2.2
   ·exact(hr.write B.k0 B.k1 ha.1 ha.2 (mD B.z)).aJ fs.1 fs.2
 ·exact((h.place B.k0 B.k1).write B.k0 B.k1 hp.1 hp.2 z0).aJ f0.1 f0.2
theorem Eb (v:Int):okv 2 (lU v)=true:=by
 unfold lU;split
 ·rename_i q;have:=aS q;simp[okv,top];omega
 ·simp[okv,top]
theorem Ed (v:Int):okv 2 (mM v)=true:=by
 unfold mM;split
 ·simp[okv,top];omega
 ·simp[okv,top]
theorem GM.jG {c:Mc} (h:GM c) {x:In} (B:InB x):GM (c.jG x):=by
 have hp:=kM h;have hp2:=kM h.pop;unfold Mc.jG;cases x.s==0
 ·cases x.s==1
  ·cases x.s==3
   ·cases x.s==4
    ·cases x.s==5
     ·cases x.s==6
      ·exact h
      ·exact h.data B.r0 B.r1 (Ed _)
     ·exact h.data B.r0 B.r1 (Eb _)
    ·exact h.ft _
   ·exact⟨(h.with x.e).g,(h.with x.e).p0,(h.with x.e).p1,h.bx,h.ok,h.bl,h.bm,h.ac⟩
  ·show GM (bif !c.pop.fine then c.pop else bif !c.pop.pop.fine then c.pop.pop else (c.pop.pop.aH c.pop.dK).bC (aY (c.pop.pop.aH c.pop.dK).r (c.dK%1024)))
   cases c.pop.fine
   ·exact h.pop
   ·cases c.pop.pop.fine
    ·exact h.pop.pop
    ·exact(h.pop.pop.aH hp2.1 hp2.2).with _
 ·exact h.pop.aH hp.1 hp.2
theorem Ux {f:Int} (b:Bool) (h:flags f=true):0<=bits .or .i64 f (fl b 2)/\bits .or .i64 f (fl b 2)<=31:=by
 obtain⟨f0,f1⟩:=rP h;obtain⟨j,hj,rfl⟩:=pF (n:=32) f0 (by omega);have q:∀j:Nat,j<32->∀b:Bool,0<=bits .or .i64 (j:Int) (fl b 2)/\bits .or .i64 (j:Int) (fl b 2)<=31:=by decide +kernel
 exact q j hj b
theorem GM.product {c:Mc} (h:GM c) {x:In} (B:InB x):GM (c.product x):=by
 have e2:okv 2 x.e=true:=by have:=B.e0;have:=B.e1;simp[okv,top];omega
 have hr:=h.read (z:=2) (m:=x.m) (.inr rfl) B.k0 B.k1 B.e0 B.e1;have hv:=Ii (fH (z:=2) (m:=x.m) h (.inr rfl) B.k0 B.k1 B.e0 B.e1 (fun _=>rfl) (fun _=>e2));have hd:=hr.g.dw x.r.toNat (by have:=B.r0;have:=B.r1;omega);unfold Mc.product;cases (c.read 2 x.m x.k x.e).fine
 ·exact hr
 ·show GM (Mc.jh _ x _)
  unfold Mc.jh;cases x.op==16
  ·cases q:(c.bH 2 x.m x.k x.e==0)
   ·refine hr.data B.r0 B.r1 ?_;have h0:0<=el (c.read 2 x.m x.k x.e).r.xs x.r.toNat/c.bH 2 x.m x.k x.e:=Int.ediv_nonneg hd.1 hv.1;have h1:=Int.le_trans (Int.ediv_le_self (c.bH 2 x.m x.k x.e) hd.1) hd.2;generalize el (c.read 2 x.m x.k x.e).r.xs x.r.toNat/c.bH 2 x.m x.k x.e=N at h0 h1;simp[okv,top];omega
   ·exact hr.ft _
  ·show GM (Mc.JM _ x _)
   unfold Mc.JM;generalize el (c.read 2 x.m x.k x.e).r.xs x.r.toNat*c.bH 2 x.m x.k x.e=Q;have g:=hr.data (z:=2) (v:=Q%65536) B.r0 B.r1 (by simp[okv,top];omega);have o:=Ux (decide (65535<Q)) (di g);exact g.aJ o.1 o.2
theorem GM.uw {c:Mc} (h:GM c) {x:In} (B:InB x):GM (c.uw x):=by
 unfold Mc.uw;generalize el c.r.xs x.r.toNat%256=a;generalize el c.r.xs x.k.toNat%256=b;unfold Mc.yX;cases ha:bcd a
 ·exact h.ft _
 ·cases hb:bcd b
  ·exact h.ft _
  ·have h2:eY c.xOf a b=true:=ry (by unfold Mc.xOf;omega) (by unfold Mc.xOf;omega) ha hb
   have hc:0<=c.qI x.s a b/\c.qI x.s a b<=1:=by
    unfold Mc.qI;cases x.s==1
    ·exact Fh c.xOf a b
    ·exact Ji c.xOf a b
   have hv:okv 1 (c.nU x.s a b)=true:=by
    unfold Mc.nU;cases x.s==1
    ·exact uI (Dy h2)
    ·exact uI (Cb h2)
   have hf:0<=c.tX x.s a b/\c.tX x.s a b<=31:=by
    unfold Mc.tX fl;split<;>omega
   exact(h.aJ hf.1 hf.2).put B.r0 B.r1 hv
theorem GM.jump {c:Mc} (h:GM c) {x:In} (B:InB x) (t:Int):GM (c.jump x t):=by
 have hp:=h.place (z:=2) (m:=x.m) (e:=x.e) B.k0 B.k1;have ha:=nC (m:=x.m) (z:=2) h B.k0 B.k1 B.e0 B.e1;have hu:=hp.push h.p0 h.p1;unfold Mc.jump;cases x.op==13
 ·cases x.s==1
  ·exact hp.aH ha.1 ha.2
  ·show GM (bif _ then _ else _)
   cases ((c.place 2 x.m x.k x.e).push c.r.p).fine
   ·exact hu
   ·exact hu.aH ha.1 ha.2
 ·show GM (bif _ then _ else _)
  cases tst (x.s+8*x.r) c.r.f
  ·exact h
  ·exact h.aH (by omega) (by omega)
theorem GM.doI {c:Mc} (h:GM c) {x:In} (hx:bP x=true) (t:Int):GM (c.doI x t):=by
 have B:=sW hx;have hrd:=h.read (z:=2) (m:=x.m) (.inr rfl) B.k0 B.k1 B.e0 B.e1;have e2:okv 2 x.e=true:=by have:=B.e0;have:=B.e1;simp[okv,top];omega
 have hv:=Ii (fH (z:=2) (m:=x.m) h (.inr rfl) B.k0 B.k1 B.e0 B.e1 (fun _=>rfl) (fun _=>e2));have hp:=h.place (z:=2) (m:=x.m) (e:=x.e) B.k0 B.k1;have ha:=nC (m:=x.m) (z:=2) h B.k0 B.k1 B.e0 B.e1;have hq:=iH h B.z B.r0 B.r1;unfold Mc.doI;cases q9:(x.op==9)
 ·cases q10:(x.op==10)
  ·cases q2:(x.op==2)
   ·cases q11:(x.op==11)
    ·cases q12:(x.op==12)
     ·cases q13:((x.op==13)||(x.op==14))
      ·cases q15:(x.op==15)
       ·cases q16:((x.op==16)||(x.op==17))
        ·cases q18:(x.op==18)
         ·cases q19:(x.op==19)
          ·refine h.two B ?_;simp only[bP,Bool.and_eq_true]at hx;have hk:=hx.2;unfold az at hk;cases e1:((x.op==1)||((x.op==3)||((x.op==4)||((x.op==5)||((x.op==6)||((x.op==7)||(x.op==8)))))))
           ·simp only[Bool.or_eq_false_iff]at q13 q16;rw[e1,q2,q9,q10,q11,q12,q13.1,q13.2,q16.1,q16.2,q18,q19,q15]at hk;cases hk
           ·rw[e1]at hk;intro q;simp[q]at hk;exact hk.2
          ·show GM (c.stat x)
           unfold Mc.stat;cases x.s==0
           ·have st:=qi h.g;exact h.bC (h.g.OY x.r.toNat st.1 (by omega)) ⟨h.p0,h.p1⟩
           ·exact h.with x.e
         ·exact h.uw B
        ·exact h.product B
       ·exact h.jG B
      ·exact h.jump B t
     ·have g:=Df hq h.g.f0 h.g.f1 x.s B.s0 B.s1;have ft:=(pO g).2.2.2.2.2;have k0:=B.k0;have k1:=B.k1;have ob:qE x.s x.z c.r.f (c.low x.z x.r) (x.k+1)=true:=by unfold qE cnt;rw[g];simp;omega
      have fb:=NI (k:=x.s) ft (x.k+1).toNat;have vb:=oL (k:=x.s) ft (x.k+1).toNat;show GM ((c.aJ (oh x.s x.z c.r.f (c.low x.z x.r) (x.k+1))).put x.z x.r (iV x.s x.z c.r.f (c.low x.z x.r) (x.k+1)));unfold oh iV;rw[if_pos ob,if_pos ob];refine(h.aJ fb.1 fb.2.1).put B.r0 B.r1 ?_;obtain⟨v1,v2,v3,_⟩:=vb;unfold okv;simp only[Bool.and_eq_true,Bool.or_eq_true,decide_eq_true_eq];exact⟨v1,v2,v3⟩
    ·refine h.one B ?_;simp only[bP,Bool.and_eq_true]at hx;have hk:=hx.2;have e:x.op=11:=by simpa using q11
     unfold az at hk;simp[e]at hk;have:=Ib hk.2;omega
   ·have hp2:=nC (m:=x.m) (z:=x.z) h B.k0 B.k1 B.e0 B.e1;have f1:=gq x.z c.r.f _ hq (di h);exact(((h.place B.k0 B.k1).write B.k0 B.k1 hp2.1 hp2.2 hq).aJ f1.1 f1.2)
  ·exact hp.fC _ ha.1 ha.2
 ·show GM (bif _ then _ else _)
  cases (c.read 2 x.m x.k x.e).fine
  ·exact hrd
  ·exact hrd.fC _ hv.1 hv.2
theorem FtW.dA {f:Ft} (h:FtW f) {k s a:Int} (a0:0<=a) (a1:a<=65535):FtW (Mc.dA f k s a):=by
 unfold Mc.dA;cases (code k s a != 0)&&(f.v==0)
 ·exact h
 ·cases (code k s a==2)
  ·exact⟨show(0:Int)<=2 by decide,show(2:Int)<=21 by decide,h.p,⟨a0,a1⟩,h.w⟩
  ·exact⟨show(0:Int)<=3 by decide,show(3:Int)<=21 by decide,h.p,⟨a0,a1⟩,h.w⟩
theorem FtW.acc {c:Mc} (h:FtW c.f) {k s a v:Int} (a0:0<=a) (a1:a<=65535):FtW (c.acc k s a v).f:=h.dA a0 a1
theorem FtW.push {c:Mc} (h:FtW c.f) (v:Int):FtW (c.push v).f:=by
 have q:=h.acc (k:=2) (s:=2) (a:=c.spA) (v:=v) (by unfold Mc.spA;omega) (by unfold Mc.spA;omega);unfold Mc.push;cases (c.acc 2 2 c.spA v).fine<;>exact q
theorem FtW.pop {c:Mc} (h:FtW c.f) (g:GM c):FtW c.pop.f:=by
 obtain⟨y0,y1⟩:=g.g.aw 3 (by omega);have q:=h.acc (k:=1) (s:=2) (a:=el c.r.ys 3) (v:=0) y0 y1;unfold Mc.pop;cases (c.acc 1 2 (el c.r.ys 3) 0).fine<;>exact q
theorem FtW.read {c:Mc} (h:FtW c.f) (g:GM c) {z m k e:Int} (k0:0<=k) (k1:k<=3) (e0:0<=e) (e1:e<=65535):FtW (c.read z m k e).f:=by
 have q:=ji (z:=z) (m:=m) g.g k0 k1 e0 e1;unfold Mc.read;cases Mc.gK m
 ·exact FtW.acc (c:=c.plc z m k e) h q.1 q.2
 ·exact h
theorem FtW.write {c:Mc} (h:FtW c.f) {z m k a v:Int} (a0:0<=a) (a1:a<=65535):FtW (c.write z m k a v).f:=by
 unfold Mc.write;cases (m==0)
 ·exact h.acc a0 a1
 ·exact h
theorem vI (c:Mc) (z m k e:Int):(c.place z m k e).f=c.f:=by unfold Mc.place;cases (m==0)<;>rfl
theorem Wu (d:Mc) (x:In) (q v:Int):(d.two' x q v).f=d.f:=by
 unfold Mc.two';cases (x.op==8)<;>cases (x.op==3)<;>cases (x.op==4)<;>cases (x.op==5)<;>cases (x.op==6)<;>cases (x.op==7)<;>rfl
theorem FtW.vec {c:Mc} (h:FtW c.f) {v:Int} (v0:0<=v) (v1:v<=21):FtW (c.vec v).f:=⟨v0,v1,h.p,h.a,h.w⟩
theorem FtW.raise {c:Mc} (h:FtW c.f) (g:GM c) {v:Int} (v0:0<=v) (v1:v<=21):FtW (c.raise v).f:=⟨v0,v1,⟨g.p0,g.p1⟩,h.a,h.w⟩
theorem FtW.doI {c:Mc} (h:FtW c.f) (g:GM c) {x:In} (hx:bP x=true) (t:Int):FtW (c.doI x t).f:=by
 have B:=sW hx;have rd:=fun z=>h.read (z:=z) (m:=x.m) g B.k0 B.k1 B.e0 B.e1;have grd:=g.read (z:=2) (m:=x.m) (.inr rfl) B.k0 B.k1 B.e0 B.e1;have hp2:=fun z=>nC (m:=x.m) (z:=z) g B.k0 B.k1 B.e0 B.e1;have wr:=fun z v=>FtW.write (c:=c.place z x.m x.k x.e) (z:=z) (m:=x.m) (k:=x.k) (a:=c.iL z x.m x.k x.e) (v:=v) (by rw[vI];exact h) (hp2 z).1 (hp2 z).2;unfold Mc.doI;cases (x.op==9)
 ·cases (x.op==10)
  ·cases (x.op==2)
   ·cases (x.op==11)
    ·cases (x.op==12)
     ·cases ((x.op==13)||(x.op==14))
      ·cases (x.op==15)
       ·cases ((x.op==16)||(x.op==17))
        ·cases (x.op==18)
         ·cases (x.op==19)
          ·show FtW (c.two x).f
           unfold Mc.two;cases (c.read x.z x.m x.k x.e).fine
           ·exact rd _
           ·show FtW (Mc.two' _ _ _ _).f
            rw[Wu];exact rd _
          ·show FtW (c.stat x).f
           unfold Mc.stat;cases (x.s==0)<;>exact h
         ·show FtW (c.uw x).f
          unfold Mc.uw Mc.yX;cases (bcd (el c.r.xs x.r.toNat%256)&&bcd (el c.r.xs x.k.toNat%256))
          ·exact h.vec (by decide) (by decide)
          ·exact h
        ·show FtW (c.product x).f
         unfold Mc.product;cases (c.read 2 x.m x.k x.e).fine
         ·exact rd 2
         ·show FtW (Mc.jh _ _ _).f
          unfold Mc.jh;cases (x.op==16)
          ·cases (c.bH 2 x.m x.k x.e==0)
           ·exact rd 2
           ·exact(rd 2).raise grd (by decide) (by decide)
          ·exact rd 2
       ·show FtW (c.jG x).f
        have q1:=h.pop g;have gp:=g.pop;have q2:=q1.pop gp;have r0:=B.r0;have r1:=B.r1;unfold Mc.jG;cases (x.s==0)
        ·cases (x.s==1)
         ·cases (x.s==3)
          ·cases (x.s==4)
           ·cases (x.s==5)
            ·cases (x.s==6)<;>exact h
            ·exact h
           ·exact h.raise g (by omega) (by omega)
          ·exact h
         ·cases c.pop.fine
          ·exact q1
          ·cases c.pop.pop.fine
           ·exact q2
           ·exact q2
        ·exact q1
      ·show FtW (c.jump x t).f
       have gp:GM (c.place 2 x.m x.k x.e):=g.place B.k0 B.k1;have pf:FtW (c.place 2 x.m x.k x.e).f:=by rw[vI];exact h
       have q:=pf.push c.r.p;unfold Mc.jump;cases (x.op==13)
       ·cases (x.s==1)
        ·exact pf
        ·cases ((c.place 2 x.m x.k x.e).push c.r.p).fine
         ·exact q
         ·exact q
       ·cases (tst (x.s+8*x.r) c.r.f)<;>exact h
     ·exact h
    ·show FtW (c.one x).f
     have ra:=oW (z:=x.z) (m:=x.m) g B.k0 B.k1 B.e0 B.e1;unfold Mc.one;cases (x.s==0)
     ·cases (c.read x.z x.m x.k x.e).fine
      ·exact rd _
      ·show FtW (Mc.one' _ _ _ _ _).f
       unfold Mc.one';cases (x.s==1)
       ·cases (x.s==2)
        ·exact rd _
        ·exact(rd x.z).write ra.1 ra.2
       ·exact(rd x.z).write ra.1 ra.2
     ·exact wr x.z 0
   ·exact wr x.z _
  ·show FtW ((c.place 2 x.m x.k x.e).fC _ _).f
   show FtW (c.place 2 x.m x.k x.e).f
   rw[vI];exact h
 ·show FtW (bif (c.read 2 x.m x.k x.e).fine then _ else _:Mc).f
  cases (c.read 2 x.m x.k x.e).fine<;>exact rd 2
end Go.Proofs.YtgikibaajanjiaaGreatDoor.Pl
namespace Go.Proofs.YtgikibaajanjiaaGreatDoor
open Pl
open Go.RowKit Go.Proofs.Tryz
set_option linter.unusedVariables false
theorem Es (v:Int) (w:World):Calls prog 238 #[iv v] w fun e w'=>e=.returned (.bool (pU v))/\w'=w:=by
 have H:v=2\/¬v=2/\(v=3\/¬v=3):=by omega
 rcases H with rfl|⟨h2,rfl|h3⟩
 all_goals
  go_enter func238,ntmps238;go_wp2;go_ret;exact⟨rB (by simp[pU, *]),rfl⟩
theorem Gg {w:World} {g:Nat} {x y:Int} (h:Blk w g #[iv x,iv y] 3):w.ownsRow g 3 1 (.slice (some (abb g 0)) 2 2) 2 [iv x,iv y]:=
 ⟨by simp,.inr ⟨g,2,#[iv x,iv y],rfl,Nat.le_refl _,h,Nat.le_refl _,by unfold maxLen;omega,by simp,by simp⟩⟩
theorem Qd (s:Bool) (f:Ft) (w:World):Calls prog 239 #[.bool s,.agg (ftA f)] w fun e w'=>e=.returned (iv (iq s f))/\Kept 0 0 w w':=by
 have K0:=aba (kept_alloc w (.cells (ftA f) 42));obtain⟨v,pc,ad,wo,wr⟩:=f;cases s<;>cases wr
 all_goals
  go_enter func239,ntmps239;go_wp2_with (go_at_call 208;refine st (Ep _ _ _) ?_;simp only[fl1,if_true,if_false,Bool.false_eq_true]);go_ret;exact⟨rI (by unfold iq fl1;simp only[if_true,if_false,Bool.false_eq_true];decide),K0.o⟩
theorem FY (w:World) (r:Rg) (f:Ft) (a b:Option Addr) (ca cb:Nat) (hg:Pl.Good r) :
  Calls prog 194 #[.agg #[.slice a r.xs.length ca,.slice b r.ys.length cb,iv r.o,iv r.p,iv r.f,iv r.m,.bool r.s,.bool r.t],.agg (ftA f)] w fun e w'=>∃(g c:Nat),e=.returned (.slice (some (abb g 0)) (iJ r f).length c)/\w.heap.size<=g/\g<w'.heap.size/\Own w' g (iJ r f)/\Kept 0 0 w w':=by
 have HG:=aba hg;clear hg;have K0:=aba (ah (kept_alloc w (.cells #[.slice a r.xs.length ca,.slice b r.ys.length cb,iv r.o,iv r.p,iv r.f,iv r.m,.bool r.s,.bool r.t] 35)) (.cells (ftA f) 42));have BC0:=aba ((Blk.new w #[.slice a r.xs.length ca,.slice b r.ys.length cb,iv r.o,iv r.p,iv r.f,iv r.m,.bool r.s,.bool r.t] 35).alloc (.cells (ftA f) 42));have BF0:=Blk.new (w.alloc (.cells #[.slice a r.xs.length ca,.slice b r.ys.length cb,iv r.o,iv r.p,iv r.f,iv r.m,.bool r.s,.bool r.t] 35)) (ftA f) 42;simp only[World.size_alloc]at BF0;replace BF0:=aba BF0;obtain⟨X,hX⟩:∃X:World,(w.alloc (.cells #[.slice a r.xs.length ca,.slice b r.ys.length cb,iv r.o,iv r.p,iv r.f,iv r.m,.bool r.s,.bool r.t] 35)).alloc (.cells (ftA f) 42)=X:=⟨_,rfl⟩
 rw[hX]at K0 BC0 BF0;have nX:X.heap.size=w.heap.size+2:=by simp[<-hX]
 obtain⟨i,hi0,hz0,hz1,hz2⟩:=info_parts Tryz.info3;have H63:Hid (2+3<=maxLen):=aba (by unfold maxLen;omega);go_enter func194,ntmps194;go_wp2_with fail;go_region_held3 (fun w'=>(∀i,w'.cell? ⟨w.heap.size,i,none⟩=(#[.slice a r.xs.length ca,.slice b r.ys.length cb,iv r.o,iv r.p,iv r.f,iv r.m,.bool r.s,.bool r.t])[i]?)/\(∀i,w'.cell? ⟨w.heap.size+1,i,none⟩=(ftA f)[i]?)) (first|exact⟨BC3.o.all,BF3.o.all⟩|exact⟨(BC3.o.alloc _).all,(BF3.o.alloc _).all⟩|exact⟨(show Blk _ _ _ _ from BC0.o).all,(show Blk _ _ _ _ from BF0.o).all⟩) (first|(go_at_call 163;refine(uV _ r a b ca cb HG.o).mono ?_;rintro e9 w3⟨rfl,k3⟩;have K3:=aba (K0.o.trans (aN k3));have BC3:=aba (BC0.o.ae (aN k3));have BF3:=aba (BF0.o.ae (aN k3));clear k3));have BC4:=aba (BC3.o.alloc (.cells #[iv f.pc,iv (Pl.status r)] 3));have BF4:=aba (BF3.o.alloc (.cells #[iv f.pc,iv (Pl.status r)] 3));have BR4:=aba (Blk.new w3 #[iv f.pc,iv (Pl.status r)] 3);have K4:=aba (ah K3.o (.cells #[iv f.pc,iv (Pl.status r)] 3));have n3:=BF3.o.lt;have hs3:w.heap.size<=w3.heap.size:=by omega
 obtain⟨X4,hX4⟩:∃X:World,w3.alloc (.cells #[iv f.pc,iv (Pl.status r)] 3)=X:=⟨_,rfl⟩
 rw[hX4]at BC4 BF4 BR4 K4;have p:=BF4.o.all;have p2:=BC4.o.all;cases h:pU f.v
 ·have E:Hid (iJ r f=[f.pc,Pl.status r]):=aba (by simp[iJ,h]);go_wp2_with (first|(go_at_call 238;refine st (Es _ _) ?_;rw[h]));go_ret;exact⟨_,_,by rw[E.o];rfl,hs3,BR4.o.lt,by rw[E.o];exact iF (xs:=[f.pc,Pl.status r]) BR4.o,K4.o⟩
 ·have E:Hid (iJ r f=[f.pc,Pl.status r,f.wo,f.ad,iq r.s f]):=aba (by simp[iJ,h]);go_wp2_with (first|(go_at_call 238;refine st (Es _ _) ?_;rw[h]));clear p p2;go_region_held3 (fun w'=>(∀i,w'.cell? ⟨w.heap.size,i,none⟩=(#[.slice a r.xs.length ca,.slice b r.ys.length cb,iv r.o,iv r.p,iv r.f,iv r.m,.bool r.s,.bool r.t])[i]?)/\(∀i,w'.cell? ⟨w.heap.size+1,i,none⟩=(ftA f)[i]?)) (first|exact⟨BC7.o.all,BF7.o.all⟩|exact⟨BC6.o.all,BF6.o.all⟩|exact⟨(BC6.o.alloc _).all,(BF6.o.alloc _).all⟩|exact⟨(show Blk _ _ _ _ from BC4.o).all,(show Blk _ _ _ _ from BF4.o).all⟩) (first|(go_at_call 239;refine(Qd r.s f _).mono ?_;rintro e9 w5⟨rfl,k5⟩;have K6:=aba (K4.o.trans (aN k5));have BC6:=aba (BC4.o.ae (aN k5));have BF6:=aba (BF4.o.ae (aN k5));have BR6:=aba (BR4.o.ae (aN k5));clear k5)|(refine step_append_lies _ (by rfl) _ _ _ (by rfl) w3.heap.size 3 i (iv 0) 1 8 underlying22 hi0 hz0 hz1 hz2 rfl (by decide) (.slice (some (abb w3.heap.size 0)) 2 2) 2 [iv f.pc,iv (Pl.status r)] (by rfl) (Gg (BR6.o.alloc _)) (abb w5.heap.size 0) 3 3 [iv f.wo,iv f.ad,iv (iq r.s f)] (by rfl) (by rfl) (World.news_of_block (cs:=#[iv f.wo,iv f.ad,iv (iq r.s f)]) (t:=3) (fr:=(0,0)) (heap_alloc_new w5 _)) (by simp[Value.oneCell']) (by decide) H63.o (by decide) (by have:=BR6.o.lt;simp;omega) (w5.heap.size+1) (by simp) ?_;intro g3 c3 w7 hown hgrow hat hlt;have O7:=aba hown;have G7:=aba hgrow;have hl6:=BR6.o.lt;have BC7:Hid (Blk w7 w.heap.size #[.slice a r.xs.length ca,.slice b r.ys.length cb,iv r.o,iv r.p,iv r.f,iv r.m,.bool r.s,.bool r.t] 35):=aba ((hgrow.block w.heap.size (by have:=BC6.o.lt;simp;omega) (by simp[Value.ownBlock];omega)).trans (BC6.o.alloc _));have BF7:Hid (Blk w7 (w.heap.size+1) (ftA f) 42):=aba ((hgrow.block (w.heap.size+1) (by have:=BF6.o.lt;simp;omega) (by simp[Value.ownBlock];omega)).trans (BF6.o.alloc _));clear hown hgrow));go_wp2_with fail;go_ret;have kk:=jZ G7.o (lo:=w3.heap.size) (hi:=w3.heap.size+1) (by intro j hj;have h5:w3.heap.size=j:=Option.some.inj hj;omega);obtain⟨p3,p4⟩:=O7.o.lt g3 rfl;exact⟨g3,c3,by rw[E.o];rfl,by omega,p4,by rw[E.o];exact iZ (xs:=[f.pc,Pl.status r,f.wo,f.ad,iq r.s f]) O7.o,aB (ah K6.o (.cells #[iv f.wo,iv f.ad,iv (iq r.s f)] 3)) kk (by omega)⟩
namespace Pl
def wX (c:Cp) (f:Ft) (k:Int):Mc:=(Mc.ofC c).ent (c.r.f+32*k+256) (iJ c.r f) f.v
def ig (c:Cp) (f:Ft) (k:Int):Cp:=(wX c f k).cpu (!(wX c f k).fine)
def Mc.un (c:Mc):Mc:={c with st:=false}
theorem Pq (c:Mc) (v:Int):c.un.push v=(c.push v).un:=by
 show(bif (c.acc 2 2 c.spA v).fine then _ else _)=Mc.un (bif (c.acc 2 2 c.spA v).fine then _ else _)
 cases (c.acc 2 2 c.spA v).fine<;>rfl
theorem F8 (c:Mc) (xs:List Int):c.un.pushes xs=(c.pushes xs).un:=by
 induction xs generalizing c with
 | nil=>rfl
 | cons v xs ih=>
  show Mc.pushes (c.un.ps v) xs=(Mc.pushes (c.ps v) xs).un
  rw[<-ih,show c.un.ps v=(c.ps v).un from by
   unfold Mc.ps;show(bif c.fine then _ else _)=Mc.un (bif c.fine then _ else _);cases c.fine
   ·rfl
   ·exact Pq c v]
theorem GM.nK {d:Mc} (q:GM d) {v:Int} (v0:0<=v) (v1:v<=21):GM (d.nK v):=by
 have ha:eU 1 2 (2*v) 0=true:=dZ (k:=1) (.inl rfl) (by omega) (by omega);have hv:=q.gI ha;unfold Mc.nK;cases d.fine
 ·exact q
 ·cases (d.acc 1 2 (2*v) 0).fine
  ·exact q.acc ha
  ·have h9:0<=d.gI 1 2 (2*v) 0/\d.gI 1 2 (2*v) 0<65536:=by simpa[okv,within,top] using hv
   exact(q.acc ha).aH h9.1 (by have:=h9.2;omega)
theorem Me (c:Mc) (n:Int) (xs:List Int) (v:Int):c.ent n xs v=(((c.bC (aY c.r n)).pushes xs).nK v).un:=by
 unfold Mc.ent;rw[show c.kC n=(c.bC (aY c.r n)).un from rfl,F8];generalize (c.bC (aY c.r n)).pushes xs=d;unfold Mc.nK;show(bif d.fine then (bif (d.acc 1 2 (2*v) 0).fine then _ else _) else _)=Mc.un (bif d.fine then (bif (d.acc 1 2 (2*v) 0).fine then _ else _) else _);cases d.fine
 ·rfl
 ·cases (d.acc 1 2 (2*v) 0).fine<;>rfl
end Pl
theorem Xr {x k:Int} (x0:0<=x) (x1:x<=31) (k0:0<=k) (k1:k<=7):bits .or .i64 (bits .or .i64 x (32*k)) 256=x+32*k+256:=by
 have h:=qy (p:=fun n=>bits .or .i64 (bits .or .i64 (n%32) (32*(n/32%8))) 256=n%32+32*(n/32%8)+256) (by decide +kernel) (n:=x+32*k) (by omega) (by omega);rwa [show(x+32*k)%32=x by omega,show(x+32*k)/32%8=k by omega]at h
theorem MAt.XU {w:World} {lo mid hi p g2:Nat} {c:Mc} (h:MAt w lo mid hi p g2 c):lo<=g2:=by
 obtain⟨gd,cd,ga,ca,g1,c1,c2,hB,hO⟩:=h;have:=hO.g2;have:=hO.d0;have:=hO.d1;omega
theorem vT {w a b:World} {lo hi g g':Nat} (k:Kept 0 0 w a) (h:Since a lo hi g b g') (hl:w.heap.size<=lo) (hg:w.heap.size<=g):Kept 0 0 w b:=
 ⟨h.2.os.trans k.os,h.2.tape.trans k.tape,h.2.output.trans k.output,Nat.le_trans k.size h.2.size,fun i hi _=>(h.2.block i (Nat.lt_of_lt_of_le hi k.size) (by unfold own;omega)).trans (k.block i hi (by omega))⟩
theorem Since.PE {w w':World} {lo hi g g':Nat} (h:Since w lo hi g w' g') {q:Nat} {xs:List Int} (ho:Own w q xs) (hq:q<w.heap.size) (hn:¬own lo hi g q):Own w' q xs:=by
 have e:=h.2.block q hq hn;intro i hi;have:=ho i hi;simp only[World.cell?,World.frozen?,e]at this ⊢;exact this
theorem CO.up2 {w w':World} {lo mid gd ga g1 g2 c2 T:Nat} {m:Mc} {x:Bool} (h:CO w lo mid (m.cpu x) gd ga g1 g2 c2) (y:Bool) (h1:g1<T) (h2:g2<T) (k:Kept T (T+1) w w'):CO w' lo mid (m.cpu y) gd ga g1 g2 c2:=by
 have:=h.d1;have:=h.b0;have:=h.a1
 exact⟨h.d.ag k (by omega),h.a.ag k (by omega),h.b.ag k (by omega),bg h.l k (by omega),h.d0,h.d1,h.a0,h.a1,h.da,h.b0,Nat.lt_of_lt_of_le h.b1 k.size,h.bl⟩
theorem CO.pst {w w':World} {lo' lo x y mid gd ga g1 g2 c2:Nat} {c:Cp} (h:CO w lo' mid c gd ga g1 g2 c2) (hl:y<=lo') (hb:lo<=lo') (k:Kept x y w w'):CO w' lo mid c gd ga g1 g2 c2:=by
 have q:=h.l.lt g2 rfl;have:=h.d0;have:=h.d1;have:=h.b0;have:=h.a0;have:=h.a1;exact⟨h.d.ag k (by omega),h.a.ag k (by omega),h.b.ag k (by omega),bg h.l k (by omega),by omega,h.d1,by omega,h.a1,h.da,h.b0,Nat.lt_of_lt_of_le h.b1 k.size,h.bl⟩
theorem BV (w:World) (r:Rg) (f:Ft) (gd cd ga ca:Nat) (hg:Pl.Good r) :
  Calls prog 194 #[jK r gd cd ga ca,.agg (ftA f)] w fun e w'=>∃(g c:Nat),e=.returned (.slice (some (abb g 0)) (iJ r f).length c)/\w.heap.size<=g/\g<w'.heap.size/\Own w' g (iJ r f)/\Kept 0 0 w w':=by
 have h:=FY w r f (some (abb gd 0)) (some (abb ga 0)) cd ca hg;rw[hg.d4,hg.a4]at h;exact h
theorem qO (w:World) (c:Cp) (f:Ft) (mk:Int) (a b e q:Option Addr) (ca cb ce cq:Nat) (ha:aF w a c.r.xs) (hb:aF w b c.r.ys) (he:aF w e c.bx) (hq:aF w q c.bl) (hok:dY c=true) (hl:c.bl.length=5*c.bm) (hfk:FtW f) (k0:0<=mk) (k1:mk<=7) :
  Calls prog 139 #[.agg #[.slice a 4 ca,.slice b 4 cb,iv c.r.o,iv c.r.p,iv c.r.f,iv c.r.m,.bool c.r.s,.bool c.r.t,.slice e 512 ce,.slice q c.bm cq,.bool c.st,.bool c.ha],.agg (ftA f),iv mk] w fun r w'=>∃gd cd ga cA g1 c1 g2 c2 mid:Nat,r=.returned (.agg (eP (ig c f mk) gd cd ga cA g1 c1 g2 c2))/\CO w' w.heap.size mid (ig c f mk) gd ga g1 g2 c2/\Kept 0 0 w w':=by
 have G:GM (Mc.ofC c):=GM.of hok hl c.st;have HG:=aba G;have h4:c.r.xs.length=4:=G.g.d4;have h5:c.r.ys.length=4:=G.g.a4;have hbx:c.bx.length=512:=G.bx;have hbm:c.bm<=400:=G.bm;have HW:=aba (wz (r:=c.r) G.g hfk);have hvv:0<=f.v/\f.v<=21:=⟨hfk.v0,hfk.v1⟩
 have f0:0<=c.r.f:=G.g.f0;have f1:c.r.f<=31:=G.g.f1;have e1:IntKind.i64.wrap (32*mk)=32*mk:=by rw[IntKind.wrap_i64];omega
 have e2:bits .or .i64 (bits .or .i64 c.r.f (32*mk)) 256=c.r.f+32*mk+256:=Xr f0 f1 k0 k1;obtain⟨n,hn⟩:∃n,n=c.r.f+32*mk+256:=⟨_,rfl⟩
 have n0:0<=n:=by omega
 have n1:n<=1023:=by omega
 obtain⟨xs,hxs⟩:∃xs,xs=iJ c.r f:=⟨_,rfl⟩
 obtain⟨D,hD⟩:∃D,D=(Mc.ofC c).bC (aY c.r n):=⟨_,rfl⟩
 have HEK:Hid (ig c f mk=((D.pushes xs).nK f.v).un.cpu (!((D.pushes xs).nK f.v).fine)):=aba (by unfold ig wX;rw[<-hn,<-hxs,Me,hD];rfl);have GD:Hid (GM D):=aba (by rw[hD];exact G.with n);rw[<-hn]at e2;have hlen:xs.length<=5:=by rw[hxs];unfold iJ;split<;>simp
 rw[<-hxs]at HW;have HXS:=aba hxs;have HD:=aba hD;clear hn hxs hD;have YJ:=fun (w9:World) ra rb re rq=>vP w9 c a b e q ca cb ce cq ra rb re rq h4 h5 hbx hl hbm;clear h4 h5 hbx hbm G;have K0:=aba (ah (ah (kept_alloc w (.cells #[.slice a 4 ca,.slice b 4 cb,iv c.r.o,iv c.r.p,iv c.r.f,iv c.r.m,.bool c.r.s,.bool c.r.t,.slice e 512 ce,.slice q c.bm cq,.bool c.st,.bool c.ha] 40)) (.cells (ftA f) 42)) (.cells cpZ 40));have B0:=((Blk.new w #[.slice a 4 ca,.slice b 4 cb,iv c.r.o,iv c.r.p,iv c.r.f,iv c.r.m,.bool c.r.s,.bool c.r.t,.slice e 512 ce,.slice q c.bm cq,.bool c.st,.bool c.ha] 40).alloc (.cells (ftA f) 42)).alloc (.cells cpZ 40);have BF:=(Blk.new (w.alloc (.cells #[.slice a 4 ca,.slice b 4 cb,iv c.r.o,iv c.r.p,iv c.r.f,iv c.r.m,.bool c.r.s,.bool c.r.t,.slice e 512 ce,.slice q c.bm cq,.bool c.st,.bool c.ha] 40)) (ftA f) 42).alloc (.cells cpZ 40);have BR:=Blk.new ((w.alloc (.cells #[.slice a 4 ca,.slice b 4 cb,iv c.r.o,iv c.r.p,iv c.r.f,iv c.r.m,.bool c.r.s,.bool c.r.t,.slice e 512 ce,.slice q c.bm cq,.bool c.st,.bool c.ha] 40)).alloc (.cells (ftA f) 42)) cpZ 40;simp only[World.size_alloc]at BF BR;obtain⟨X,hX⟩:∃X:World,((w.alloc (.cells #[.slice a 4 ca,.slice b 4 cb,iv c.r.o,iv c.r.p,iv c.r.f,iv c.r.m,.bool c.r.s,.bool c.r.t,.slice e 512 ce,.slice q c.bm cq,.bool c.st,.bool c.ha] 40)).alloc (.cells (ftA f) 42)).alloc (.cells cpZ 40)=X:=⟨_,rfl⟩
 rw[hX]at K0 B0 BF BR;have sX:X.heap.size=w.heap.size+3:=by simp[<-hX]
 have HBF:=aba BF;have HBR:=aba BR;have HA:=aba (ha.ag K0.o);have HB:=aba (hb.ag K0.o);have HE:=aba (he.ag K0.o);have HQ:=aba (hq.ag K0.o);have i0:=B0.all;clear B0 BF BR ha hb he hq;go_enter func139,ntmps139;go_wp2_with (go_at_call 109;refine(YJ _ HA.o HB.o HE.o HQ.o).mono ?_;rintro e9 W1⟨mid,p,g9,rfl,hm9,hp9,k9⟩;have HM1:=aba hm9;have K1:=aba k9;have BF1:=aba (HBF.o.ae k9);have BR1:=aba (HBR.o.ae k9);have hpX:X.heap.size<=p:=hp9;have s1:=k9.size;clear hm9 hp9 k9);clear i0 hX YJ HA HB HE HQ;obtain⟨gd,cd,ga,cA,g1,c1,c2,HB1,HO1⟩:=HM1.o.op;have hlo1:=HM1.o.lo;have hg9:=HM1.o.XU;go_region_held3 (fun w'=>(w'.cell? (abb p 0)=some (.slice (some (abb gd 0)) 4 cd)/\w'.cell? (abb p 1)=some (.slice (some (abb ga 0)) 4 cA)/\w'.cell? (abb p 2)=some (iv c.r.o)/\w'.cell? (abb p 3)=some (iv c.r.p)/\w'.cell? (abb p 4)=some (iv c.r.f)/\w'.cell? (abb p 5)=some (iv c.r.m)/\w'.cell? (abb p 6)=some (.bool c.r.s)/\w'.cell? (abb p 7)=some (.bool c.r.t))/\(∀i,w'.cell? ⟨w.heap.size+1,i,none⟩=(ftA f)[i]?)) (first|exact⟨HB2.o.c8,BF2.o.all⟩|exact⟨(HB1.o.any (ai (Kept.refl _ _ _))).c8,(show Blk _ _ _ _ from BF1.o).all⟩) (first|(go_at_call 194;refine(BV _ c.r f gd cd ga cA HG.o.g).mono ?_;rw[<-HXS.o];rintro e9 W2⟨gf,cf,rfl,gf0,gf1,ho,kd⟩;have k2:=aN kd;have gf2:W1.heap.size<=gf:=gf0;have OF:=aba ho;have K2:=aba (K1.o.trans k2);have HB2:=aba (HB1.o.any k2);have HO2:=aba (HO1.o.any k2);have BF2:=aba (BF1.o.ae k2);have z2:=k2.size;clear kd k2 ho gf0));rename_i hHeld;clear hHeld;have HW4:=fun w9 hr hh=>DD w9 X.heap.size mid gd cd ga cA c.r n hr hh HG.o.g n0 n1;obtain⟨R,hR⟩:∃R,aY c.r n=R:=⟨_,rfl⟩
 rw[hR]at HD;simp only[hR,jK]at HW4;clear hR;have HOY:=aba (HO2.o.any (ai (Kept.refl 0 0 W2)));have HBY:=aba (HB2.o.any (ai (Kept.refl 0 0 W2)));have HRY:=aba (MO.reg (r:=c.r) HOY.o);have HMY:Hid (mid<=W2.drew.heap.size):=aba (by have:=HOY.o.hh;omega);have HPM:=HOY.o.p0;go_wp2_with fail;obtain⟨t0,t1,t2,t3,t4,t5,t6,t7⟩:W2.cell? (abb p 0)=some (.slice (some (abb gd 0)) 4 cd)/\W2.cell? (abb p 1)=some (.slice (some (abb ga 0)) 4 cA)/\W2.cell? (abb p 2)=some (iv c.r.o)/\W2.cell? (abb p 3)=some (iv c.r.p)/\W2.cell? (abb p 4)=some (iv c.r.f)/\W2.cell? (abb p 5)=some (iv c.r.m)/\W2.cell? (abb p 6)=some (.bool c.r.s)/\W2.cell? (abb p 7)=some (.bool c.r.t):=HB2.o.c8;go_cut [21,22,23,24,25,26,27,28,29,30,31,32,33,34,35,36,37] (fun _ _ _ _ _ _ _ _ _ _ _ _ _ _ _ _ _ wx=>MAt wx X.heap.size mid W1.heap.size p g9 D/\Own wx gf xs/\gf<wx.heap.size/\Kept 0 0 X wx)
 case first=>
  go_region_with (go_at_call 162;refine(HW4 _ HRY.o HMY.o).mono ?_;rintro e9 W_9⟨rfl,hr9,hk9⟩;have tZ:=aba (HOY.o.regs hr9 hk9);have bi:=aba (HBY.o.regs hk9 HPM);have OF9:=aba (OF.o.ag (aN hk9) (by omega));have K9:=aba (aB (ai K2.o) hk9 (by omega));have z9:W2.heap.size<=W_9.heap.size:=hk9.size;clear hr9 hk9 t0 t1 t2 t3 t4 t5 t6 t7;obtain⟨u0,u1,u2,u3,u4,u5,u6,u7,_⟩:=bi.o.cells;have q0:=bi.o.frozen 0;have q1:=bi.o.frozen 1;have q2:=bi.o.frozen 2;have q3:=bi.o.frozen 3;have q4:=bi.o.frozen 4;have q5:=bi.o.frozen 5;have q6:=bi.o.frozen 6;have q7:=bi.o.frozen 7)
  all_goals
   go_wp2_with fail;go_meet
   case rel=>exact⟨by rw[HD.o];exact MAt.laid bi.o tZ.o,OF9.o.ag (MB.lN _ _ _ _ _ _ _ _) (by omega),by simp;omega,aB K9.o (MB.lN _ _ _ _ _ _ _ _) (by omega)⟩
 case rest=>
 rename_i wx;obtain⟨hm,ho,hgx,hkx⟩:=hcut;have HM3:=aba hm;have OF3:=aba ho;have K3:=aba hkx;clear hm ho hkx t0 t1 t2 t3 t4 t5 t6 t7 HW4 HOY HBY HRY HMY HB1 HO1 HB2 HO2 OF K1 K2 BF1 BF2;go_wp2_with fail;go_loopw [40] (fun j wr=>∃(k g':Nat),k<=xs.length/\j=iv (k:Int)/\MAt wr X.heap.size mid W1.heap.size p g' (D.pushes (xs.take k))/\Own wr gf xs/\gf≠g'/\gf<wr.heap.size/\Kept 0 0 X wr) (fun j _=>xs.length-(intOf j).toNat)
 case atStart=>exact⟨0,g9,Nat.zero_le _,rfl,HM3.o,OF3.o,by omega,hgx,K3.o⟩
 case round=>
  obtain⟨k,g',hk,rfl,hm,ho,hgne,hglt,hkx⟩:=hrel;have MM:=aba hm;have OO:=aba ho;have KK:=aba hkx;have hlg:=hm.XU;have zz:=hkx.size;clear hm ho hkx HM3 OF3 K3;obtain⟨E,hE⟩:∃E,E=D.pushes (xs.take k):=⟨_,rfl⟩
  rw[<-hE]at MM;have HEE:=aba hE;have GE:Hid (GM E):=aba (by rw[hE];exact GD.o.pushes HW.o k hk);clear hE;by_cases hlt:k<xs.length
  ·have dk:(k:Int)<(xs.length:Int):=by omega
   obtain⟨v0,v1⟩:=HW.o k hlt;have qk:=(OO.o k hlt).1;rw[show xs[k]?.getD 0=el xs k from rfl]at qk;obtain⟨V,hV⟩:∃V,V=el xs k:=⟨_,rfl⟩
   rw[<-hV]at qk v0 v1;have E1:Hid (D.pushes (xs.take (k+1))=E.ps V):=aba (by rw[jY _ _ hlt,<-HEE.o,hV]);clear hV;cases hfi:E.fine
   ·have E2:Hid (E.ps V=E):=aba (by unfold Mc.ps;rw[hfi];rfl);go_wp2_with (go_at_call 112;refine st (bY _ X.heap.size mid W1.heap.size p g' E MM.o) ?_;rw[hfi]);go_roundw
    case rel=>exact⟨k+1,g',by omega,by go_num,by rw[E1.o,E2.o];exact MM.o,OO.o,hgne,hglt,KK.o⟩
    case measure=>simp[intOf];omega
   ·have E2:Hid (E.ps V=E.push V):=aba (by unfold Mc.ps;rw[hfi];rfl);go_wp2_with (first|(go_at_call 112;refine st (bY _ X.heap.size mid W1.heap.size p g' E MM.o) ?_;rw[hfi])|(go_at_call 195;refine(Ti _ X.heap.size mid W1.heap.size p g' E V MM.o GE.o v0 v1).mono ?_;rintro e9 W5⟨rfl,g5,hm5,hs5⟩;have M5:=aba hm5;have n5:=hs5.ne (b:=gf) hglt hgne;have O5:=aba (hs5.PE OO.o hglt (by unfold own;omega));have K5:=aba (vT KK.o hs5 (Nat.le_refl _) hlg);have z5:=hs5.size;clear hm5 hs5));go_roundw
    case rel=>exact⟨k+1,g5,by omega,by go_num,by rw[E1.o,E2.o];exact M5.o,O5.o,n5,by omega,K5.o⟩
    case measure=>simp[intOf];omega
  ·have dk:¬((k:Int)<(xs.length:Int)):=by omega
   have hkx:k=xs.length:=by omega
   have EX:Hid (D.pushes xs=E):=aba (by rw[HEE.o,hkx,List.take_length]);rw[EX.o]at HEK;have e3:IntKind.i64.wrap (2*f.v)=2*f.v:=by rw[IntKind.wrap_i64];omega
   have xg:=aba (dZ (k:=1) (a:=2*f.v) (.inl rfl) (by omega) (by omega));have BF:=aba (HBF.o.ae KK.o);have p2:=BF.o.all;obtain⟨N,hN⟩:∃N,N=E.nK f.v:=⟨_,rfl⟩
   have GN:Hid (GM N):=aba (by rw[hN];exact GM.nK GE.o (by omega) (by omega));rw[<-hN]at HEK;have HN:=aba hN;clear hN hkx EX HEE;go_upto_if 51 with (go_at_call 112;refine st (bY _ X.heap.size mid W1.heap.size p g' E MM.o) ?_);go_cut [11,52,53,54,55,56,57,58,59,60,61,62,63] (fun _ _ _ _ _ _ _ _ _ _ _ _ _ wx=>∃g',MAt wx X.heap.size mid W1.heap.size p g' N/\Kept 0 0 X wx)
   case first=>
    cases hfi:E.fine
    ·have E1:Hid (N=E):=aba (by rw[HN.o];unfold Mc.nK;rw[hfi];rfl);go_wp2_with fail;go_meet
     case rel=>exact⟨g',by rw[E1.o];exact MM.o,KK.o⟩
    ·obtain⟨M,hM⟩:∃M,M=E.acc 1 2 (2*f.v) 0:=⟨_,rfl⟩
     obtain⟨V,hV⟩:∃V,V=E.gI 1 2 (2*f.v) 0:=⟨_,rfl⟩
     have HAC:=aba (fZ _ X.heap.size mid W1.heap.size p g' E 1 2 (2*f.v) 0 MM.o GE.o xg.o);rw[<-hM,<-hV]at HAC;have HM:=aba hM;have HV:=aba hV;clear hM hV;cases hfm:M.fine
     ·have E1:Hid (N=M):=aba (by rw[HN.o];unfold Mc.nK;rw[hfi,<-HM.o,hfm];rfl);go_wp2_with (first|(go_at_call 112;have z:=M6;refine st (bY _ X.heap.size mid W1.heap.size p g6 M M6.o) ?_;rw[hfm])|(go_at_call 184;refine HAC.o.mono ?_;rintro e9 W6⟨rfl,g6,hm6,hs6⟩;have M6:=aba hm6;have K6:=aba (vT KK.o hs6 (Nat.le_refl _) hlg);clear hm6 hs6));go_meet
      case rel=>exact⟨g6,by rw[E1.o];exact M6.o,K6.o⟩
     ·have E1:Hid (N=M.aH V):=aba (by rw[HN.o];unfold Mc.nK;rw[hfi,<-HM.o,<-HV.o,hfm];rfl);go_wp2_with (first|(go_at_call 112;have z:=M6;refine st (bY _ X.heap.size mid W1.heap.size p g6 M M6.o) ?_;rw[hfm])|(go_at_call 184;refine HAC.o.mono ?_;rintro e9 W6⟨rfl,g6,hm6,hs6⟩;have M6:=aba hm6;have K6:=aba (vT KK.o hs6 (Nat.le_refl _) hlg);obtain⟨xd,xc,ya,yc,z1,zc,y2,hB6,hO6⟩:=hm6;have t3:=hB6.k3;have q3:=hB6.frozen 3;clear hB6 hO6 hs6));go_meet
      case rel=>exact⟨g6,by rw[E1.o];exact M6.o.cP V,aB K6.o (ak _ p 3 (iv V)) (by omega)⟩
   case rest=>
   obtain⟨g7,hm7,hk7⟩:=hcut;obtain⟨U,hU⟩:∃U,U=N.un:=⟨_,rfl⟩
   have GU:Hid (GM U):=aba (by rw[hU];exact⟨GN.o.g,GN.o.p0,GN.o.p1,GN.o.bx,GN.o.ok,GN.o.bl,GN.o.bm,GN.o.ac⟩);have FU:Hid (U.fine=N.fine):=aba (by rw[hU];rfl);have M8:Hid (MAt (wc.setCell (abb p 10) (.bool false)) X.heap.size mid W1.heap.size p g7 U):=aba (by rw[hU];exact hm7.cSt false);have K8:=aba (aB hk7 (ak wc p 10 (.bool false)) (by omega));obtain⟨xd,xc,ya,yc,z1,zc,y2,hB7,hO7⟩:=hm7;have t10:=hB7.k10;have q10:=hB7.frozen 10;rw[<-hU,<-FU.o]at HEK;clear hB7 hO7 hk7 MM OO KK BF p2 hU;go_wp2_with fail;clear t10 q10;refine(XN _ X.heap.size mid W1.heap.size p g7 U M8.o GU.o).mono ?_;unfold eP;rintro e9 W9⟨gd,cd,ga,cA,g1,c1,g2,c2,mid3,rfl,hc9,k9⟩;simp only[Mc.cpu];have kz:=kept_alloc W9 (.cells #[.slice (some (abb gd 0)) 4 cd,.slice (some (abb ga 0)) 4 cA,iv U.r.o,iv U.r.p,iv U.r.f,iv U.r.m,.bool U.r.s,.bool U.r.t,.slice (some (abb g1 0)) 512 c1,.slice (some (abb g2 0)) U.bm c2,.bool U.st,.bool false] 40);have K9:=aba ((K8.o.trans k9).trans kz);have M9:=aba ((M8.o.any k9).any kz);have BT:=aba (Blk.new W9 #[.slice (some (abb gd 0)) 4 cd,.slice (some (abb ga 0)) 4 cA,iv U.r.o,iv U.r.p,iv U.r.f,iv U.r.m,.bool U.r.s,.bool U.r.t,.slice (some (abb g1 0)) 512 c1,.slice (some (abb g2 0)) U.bm c2,.bool U.st,.bool false] 40);have C9:=aba (hc9.any kz);have z9:X.heap.size<=W9.heap.size:=(K8.o.trans k9).size;have z8:=k9.size;have hlo8:=M8.o.lo;have hc1:=hc9.b1;have hc2:=(hc9.l.lt g2 rfl).2;have BR9:=aba (HBR.o.ae K9.o);obtain⟨Z,hZ⟩:∃Z:World,W9.alloc (.cells #[.slice (some (abb gd 0)) 4 cd,.slice (some (abb ga 0)) 4 cA,iv U.r.o,iv U.r.p,iv U.r.f,iv U.r.m,.bool U.r.s,.bool U.r.t,.slice (some (abb g1 0)) 512 c1,.slice (some (abb g2 0)) U.bm c2,.bool U.st,.bool false] 40)=Z:=⟨_,rfl⟩
   rw[hZ]at K9 M9 BT C9 BR9;have hne:w.heap.size+1+1<W9.heap.size:=by omega
   have r9:=BR9.o.all;have rf9:=BR9.o.fz;have b9:=BT.o.all;have bf9:=BT.o.fz;clear k9 hc9 kz;go_wp2_with (go_at_call 112;refine st (bY _ X.heap.size mid W1.heap.size p g7 U (M9.o.past (ak Z W9.heap.size 11 (.bool false)) (by omega) (by omega))) ?_);have s0:=K0.o.size;have CZ:=aba (C9.o.up2 (!U.fine) hc1 hc2 ((ak Z W9.heap.size 11 (.bool false)).one 11 (.bool (!U.fine))));refine bodyPost_ret (v:=.agg (eP (ig c f mk) gd cd ga cA g1 c1 g2 c2)) ?_ rfl ⟨gd,cd,ga,cA,g1,c1,g2,c2,mid3,rfl,?co,?kw⟩
   case co=>
    rw[HEK.o];refine CO.pst (x:=w.heap.size+1+1) (y:=w.heap.size+1+1+1) CZ.o (by omega) (by omega) ?_;repeat (first|with_reducible exact Kept.refl _ _ _|refine af ?_ _ _ _ (.inl (by omega)))
   case kw=>
    repeat (first|with_reducible exact K0.o.trans K9.o|refine af ?_ _ _ _ (.inr (by omega)))
   rw[aj rfl,HEK.o];unfold eP;simp only[Mc.cpu];go_simp
theorem JW (w:World) (c:Cp) (a b e q:Option Addr) (ca cb ce cq:Nat) (ha:aF w a c.r.xs) (hb:aF w b c.r.ys) (he:aF w e c.bx) (hq:aF w q c.bl) (hok:dY c=true) (hl:c.bl.length=5*c.bm) (hf:(Mc.ofC c).fetch.fine=true) (hp:jo (Mc.ofC c).aG=false\/(jo (Mc.ofC c).aG=true/\(Mc.ofC c).fetch.r.s=true)) (hfs:(((Mc.ofC c).fetch.aH (((Mc.ofC c).r.p+2*(Mc.ofC c).dh)%65536)).doI (Mc.ofC c).aG (Mc.ofC c).r.p).fine=true) :
  Calls prog 82 #[.agg #[.slice a 4 ca,.slice b 4 cb,iv c.r.o,iv c.r.p,iv c.r.f,iv c.r.m,.bool c.r.s,.bool c.r.t,.slice e 512 ce,.slice q c.bm cq,.bool c.st,.bool c.ha]] w fun r w'=>∃gd cd ga cA g1 c1 g2 c2 mid:Nat,r=.returned (.tuple #[.agg (eP (dm c) gd cd ga cA g1 c1 g2 c2),.agg (ftC (fE c))])/\CO w' w.heap.size mid (dm c) gd ga g1 g2 c2/\Kept 0 0 w w':=by
 have HG:=aba (GM.of hok hl c.st);have h4:=HG.o.g.d4;have h5:=HG.o.g.a4;have hbx:=HG.o.bx;have hbm:=HG.o.bm;have K0:=aba (ah (ah (kept_alloc w (.cells #[.slice a 4 ca,.slice b 4 cb,iv c.r.o,iv c.r.p,iv c.r.f,iv c.r.m,.bool c.r.s,.bool c.r.t,.slice e 512 ce,.slice q c.bm cq,.bool c.st,.bool c.ha] 40)) (.cells cpZ 40)) (.cells ftZ 42));have B0:=((Blk.new w #[.slice a 4 ca,.slice b 4 cb,iv c.r.o,iv c.r.p,iv c.r.f,iv c.r.m,.bool c.r.s,.bool c.r.t,.slice e 512 ce,.slice q c.bm cq,.bool c.st,.bool c.ha] 40).alloc (.cells cpZ 40)).alloc (.cells ftZ 42);have B1:=(Blk.new (w.alloc (.cells #[.slice a 4 ca,.slice b 4 cb,iv c.r.o,iv c.r.p,iv c.r.f,iv c.r.m,.bool c.r.s,.bool c.r.t,.slice e 512 ce,.slice q c.bm cq,.bool c.st,.bool c.ha] 40)) cpZ 40).alloc (.cells ftZ 42);have B2:=Blk.new ((w.alloc (.cells #[.slice a 4 ca,.slice b 4 cb,iv c.r.o,iv c.r.p,iv c.r.f,iv c.r.m,.bool c.r.s,.bool c.r.t,.slice e 512 ce,.slice q c.bm cq,.bool c.st,.bool c.ha] 40)).alloc (.cells cpZ 40)) ftZ 42;simp only[World.size_alloc]at B1 B2;obtain⟨X,hX⟩:∃X:World,((w.alloc (.cells #[.slice a 4 ca,.slice b 4 cb,iv c.r.o,iv c.r.p,iv c.r.f,iv c.r.m,.bool c.r.s,.bool c.r.t,.slice e 512 ce,.slice q c.bm cq,.bool c.st,.bool c.ha] 40)).alloc (.cells cpZ 40)).alloc (.cells ftZ 42)=X:=⟨_,rfl⟩
 rw[hX]at K0 B0 B1 B2;have hxs:X.heap.size=w.heap.size+3:=by rw[<-hX];simp
 have HXS:=aba hxs;have HB0:=aba B0;have HB1:=aba B1;have HB2:=aba B2;have HA:=aba (ha.ag K0.o);have HB:=aba (hb.ag K0.o);have HE:=aba (he.ag K0.o);have HQ:=aba (hq.ag K0.o);have HAw:=aba ha;have HBw:=aba hb;clear B0 B1 B2 ha hb he hq hxs;have i0:=HB0.o.all;obtain⟨hin,hfn⟩:=pV hf;have hpp0:0<=(Mc.ofC c).r.p:=HG.o.p0;have hpp1:(Mc.ofC c).r.p<=65535:=HG.o.p1;have HGd:Hid (GM ((Mc.ofC c).fetch.aH (((Mc.ofC c).r.p+2*(Mc.ofC c).dh)%65536))):=aba ((GM.fetch HG.o).aH (by omega) (by omega));have hfd:((Mc.ofC c).fetch.aH (((Mc.ofC c).r.p+2*(Mc.ofC c).dh)%65536)).fine=true:=hf;have HGs:=aba (HGd.o.doI hin (Mc.ofC c).r.p);have HDO:=fun w9 mid hi p g3 h9=>mDo w9 X.heap.size mid hi p g3 ((Mc.ofC c).fetch.aH (((Mc.ofC c).r.p+2*(Mc.ofC c).dh)%65536)) (Mc.ofC c).aG (Mc.ofC c).r.p h9 HGd.o hin hpp0 hpp1 hfd
 have ES:Pl.stepM c=((Mc.ofC c).fetch.aH (((Mc.ofC c).r.p+2*(Mc.ofC c).dh)%65536)).doI (Mc.ofC c).aG (Mc.ofC c).r.p:=by
  have e1:(Mc.ofC c).s1=(Mc.ofC c).fetch:=by unfold Mc.s1;rw[hf];rcases hp with q|⟨q,r⟩<;>(first|rw[q,r]|rw[q])<;>rfl
  unfold Pl.stepM Mc.s2;rw[e1,hf];rfl
 obtain⟨sd,hsd⟩:∃s,((Mc.ofC c).fetch.aH (((Mc.ofC c).r.p+2*(Mc.ofC c).dh)%65536)).doI (Mc.ofC c).aG (Mc.ofC c).r.p=s:=⟨_,rfl⟩
 rw[hsd]at HGs hfs ES;simp only[hsd]at HDO;clear hsd;have EC:Hid (dm c=sd.cpu false):=aba (by unfold dm;rw[ES,hfs];rfl);have EF:Hid (fE c=aI):=aba (by unfold fE;rw[ES,hfs];rfl);have HBL:Hid (w.heap.size<X.heap.size):=aba (by have:=HXS.o;omega);have aaN:Hid (w.heap.size+1<X.heap.size):=aba (by have:=HXS.o;omega);have aaM:Hid (w.heap.size+1+1<X.heap.size):=aba (by have:=HXS.o;omega)
 obtain⟨pb,HPV,hs⟩:∃pb,Hid (jo ⟨(Mc.ofC c).aG.op,(Mc.ofC c).aG.z,(Mc.ofC c).aG.r,(Mc.ofC c).aG.m,(Mc.ofC c).aG.k,(Mc.ofC c).aG.e,(Mc.ofC c).aG.s⟩=pb)/\(pb=true->(Mc.ofC c).fetch.r.s=true):=by
  rcases hp with q|⟨q,r⟩
  ·exact⟨false,q,by simp⟩
  ·exact⟨true,q,fun _=>r⟩
 have hmk:=qN ((Mc.ofC c).r.p+2*(Mc.ofC c).dh);have hn0:1<=(Mc.ofC c).dh:=by omega
 have hn1:(Mc.ofC c).dh<=2:=by omega
 clear ES hp hfn hin hfd;cases pb
 all_goals
  go_enter func82,ntmps82;go_wp2_with (first|(go_at_call 112;have z9:=HM6;refine st (bY _ X.heap.size mid W1.heap.size p g6 _ HM6.o) ?_;rw[hfs])|(go_at_call 111;have z9:=HMd;refine(HDO _ mid W1.heap.size p g3 HMd.o).mono ?_;rintro e9 W6⟨rfl,g6,hm9,hb9⟩;have HM6:=aba hm9;have HL6:=aba (HLd.o.trans (jm hb9 HMd.o.xy HLd.o.size));have HK6:=aba (fA K0.o HL6.o K0.o.size);have HZ6:=aba (HB0.o.below HL6.o HBL.o);clear hb9 x0 t3 t6 t11 f3 f11 i0;have i0:=HZ6.o.all;obtain⟨gd6,cd6,ga6,ca6,g16,c16,c26,hB9,hO9⟩:=hm9;have HB6:=aba hB9;have HO6:=aba hO9;have hpw6:=hB9.lt;clear hB9 hO9)|(go_at_call 112;have z9:=HMd;refine st (bY _ X.heap.size mid W1.heap.size p g3 _ HM5.o) ?_;rw[hf])|(go_at_call 112;have z9:=HBm;refine st (bY _ X.heap.size mid W1.heap.size p g3 _ HMZ.o) ?_;rw[hf])|(go_at_call 109;refine(vP _ c a b e q ca cb ce cq HA.o HB.o HE.o HQ.o h4 h5 hbx hl hbm).mono ?_;rintro e9 W1⟨mid,p,g2,rfl,hm9,hp9,k9⟩;have HM1:=aba hm9;have HK1:=aba k9;have HP1:=aba hp9;have HL1:=aba (dM k9 (Nat.le_refl X.heap.size));obtain⟨_,_,_,_,_,_,_,hB9,_⟩:=hm9;have hpw1:=hB9.lt;have t3:=(MB.cells hB9).2.2.2.1;clear hp9 k9 hB9)|(go_at_call 135;refine(yB _ X.heap.size mid W1.heap.size p g2 (Mc.ofC c) HM1.o HG.o).mono ?_;rintro e9 W2⟨rfl,g3,hm9,hb9⟩;have HM2:=aba hm9;have HS2:=aba hb9;have HL2:=aba (HL1.o.trans (jm hb9 HM1.o.xy HL1.o.size));clear hm9 hb9 t3;unfold nH;have KZ:=kept_alloc W2 (.cells #[iv (Mc.ofC c).aG.op,iv (Mc.ofC c).aG.z,iv (Mc.ofC c).aG.r,iv (Mc.ofC c).aG.m,iv (Mc.ofC c).aG.k,iv (Mc.ofC c).aG.e,iv (Mc.ofC c).aG.s] 48);have BZ:=Blk.new W2 #[iv (Mc.ofC c).aG.op,iv (Mc.ofC c).aG.z,iv (Mc.ofC c).aG.r,iv (Mc.ofC c).aG.m,iv (Mc.ofC c).aG.k,iv (Mc.ofC c).aG.e,iv (Mc.ofC c).aG.s] 48;obtain⟨Z,hZ⟩:∃Z:World,W2.alloc (.cells #[iv (Mc.ofC c).aG.op,iv (Mc.ofC c).aG.z,iv (Mc.ofC c).aG.r,iv (Mc.ofC c).aG.m,iv (Mc.ofC c).aG.k,iv (Mc.ofC c).aG.e,iv (Mc.ofC c).aG.s] 48)=Z:=⟨_,rfl⟩;rw[hZ]at KZ BZ;have HBZ:=aba BZ;have HMZ:=aba (HM2.o.any KZ);have HLZ:=aba (HL2.o.trans (dM KZ (Nat.le_trans (Nat.le_refl X.heap.size) HL2.o.size)));have HKZ:=aba (fA K0.o HLZ.o K0.o.size);clear KZ BZ;have HZB:=aba (HB0.o.below HLZ.o HBL.o);clear i0;have i0:=HZB.o.all;have hzm:=HMZ.o;obtain⟨gd,cd,ga,cA,g1,c1,c2,hB9,hO9⟩:=hzm;have HBm:=aba hB9;have HOm:=aba hO9;have hpz:=hB9.lt;clear hB9 hO9;have x0:=HBZ.o.all;have hzx:=HBZ.o.lt)|(go_at_call 110;have z9:=HBm;refine(uY _ (Mc.ofC c).aG.op (Mc.ofC c).aG.z (Mc.ofC c).aG.r (Mc.ofC c).aG.m (Mc.ofC c).aG.k (Mc.ofC c).aG.e (Mc.ofC c).aG.s).mono ?_;rintro e9 W5⟨rfl,k9⟩;rw[HPV.o];have HM5:=aba (HMZ.o.any k9);have HB5:=aba (HBm.o.any k9);have HO5:=aba (HOm.o.any k9);have HZ5:=aba (HZB.o.ae k9);have HL5:=aba (HLZ.o.trans (dM k9 (Nat.le_trans (Nat.le_refl X.heap.size) HLZ.o.size)));have HK5:=aba (HKZ.o.trans k9);have HX5:=aba (HBZ.o.ae k9);clear k9 x0 i0;have i0:=HZ5.o.all;have x0:=HX5.o.all;obtain⟨t0,t1,t2,t3,t4,t5,t6,t7,t8,t9,t10,t11,_⟩:=HB5.o.cells;have f11:=HB5.o.frozen 11;have f3:=HB5.o.frozen 3;have hpw5:=HB5.o.lt;clear t0 t1 t2 t4 t5 t7 t8 t9 t10;(first|rw[hs rfl]at t6|skip);have HMd:Hid (MAt (W5.setCell (abb p 3) (iv (((Mc.ofC c).r.p+2*(Mc.ofC c).dh)%65536))) X.heap.size mid W1.heap.size p g3 ((Mc.ofC c).fetch.aH (((Mc.ofC c).r.p+2*(Mc.ofC c).dh)%65536))):=aba (HM5.o.cP (((Mc.ofC c).r.p+2*(Mc.ofC c).dh)%65536));have HLd:=aba (HL5.o.setCell (p:=(abb p 3)) HP1.o (iv (((Mc.ofC c).r.p+2*(Mc.ofC c).dh)%65536)));have hpx:p<W2.heap.size:=HM2.o.lo.2.2.2.2.1)|(go_at_call 113;refine(XN _ X.heap.size mid W1.heap.size p g6 sd HM6.o HGs.o).mono ?_;unfold eP;rintro e9 W4⟨gd4,cd4,ga4,ca4,g14,c14,g24,c24,mid4,rfl,hc9,k9⟩;have HC:=aba hc9;have HK4:=aba (HK6.o.trans k9);have aX:=aba ((HB1.o.below HL6.o aaN.o).ae k9);have fB:=aba ((HB2.o.below HL6.o aaM.o).ae k9);have hs4:=fB.o.lt;clear hc9 k9;have o0:=aX.o.cell (i:=0) rfl;have of0:=aX.o.frozen 0;have o1:=aX.o.cell (i:=1) rfl;have of1:=aX.o.frozen 1;have o2:=aX.o.cell (i:=2) rfl;have of2:=aX.o.frozen 2;have o3:=aX.o.cell (i:=3) rfl;have of3:=aX.o.frozen 3;have o4:=aX.o.cell (i:=4) rfl;have of4:=aX.o.frozen 4;have o5:=aX.o.cell (i:=5) rfl;have of5:=aX.o.frozen 5;have o6:=aX.o.cell (i:=6) rfl;have of6:=aX.o.frozen 6;have o7:=aX.o.cell (i:=7) rfl;have of7:=aX.o.frozen 7;have o8:=aX.o.cell (i:=8) rfl;have of8:=aX.o.frozen 8;have o9:=aX.o.cell (i:=9) rfl;have of9:=aX.o.frozen 9;have o10:=aX.o.cell (i:=10) rfl;have of10:=aX.o.frozen 10;have o11:=aX.o.cell (i:=11) rfl;have of11:=aX.o.frozen 11;have y0:=fB.o.cell (i:=0) rfl;have yf0:=fB.o.frozen 0;have y1:=fB.o.cell (i:=1) rfl;have yf1:=fB.o.frozen 1;have y2:=fB.o.cell (i:=2) rfl;have yf2:=fB.o.frozen 2;have y3:=fB.o.cell (i:=3) rfl;have yf3:=fB.o.frozen 3;have y4:=fB.o.cell (i:=4) rfl;have yf4:=fB.o.frozen 4));have hxs:=HXS.o;have hl6:=HL6.o.size;refine bodyPost_ret (v:=.tuple #[.agg (eP (dm c) gd4 cd4 ga4 ca4 g14 c14 g24 c24),.agg (ftC (fE c))]) ?_ rfl ⟨gd4,cd4,ga4,ca4,g14,c14,g24,c24,mid4,rfl,?co,?kw⟩
  case co=>
   rw[EC.o];refine HC.o.DZ (x:=w.heap.size+1) (y:=w.heap.size+3) (by omega) (by omega) ?_;repeat (first|with_reducible exact Kept.refl _ _ _|refine af ?_ _ _ _ (.inl (by omega)))
  case kw=>repeat (first|with_reducible exact HK4.o|refine af ?_ _ _ _ (.inr (by omega)))
  rw[jS rfl,EC.o,EF.o];go_simp;exact⟨rfl,rfl⟩
theorem Gm (w:World) (c:Cp) (a b e q:Option Addr) (ca cb ce cq:Nat) (ha:aF w a c.r.xs) (hb:aF w b c.r.ys) (he:aF w e c.bx) (hq:aF w q c.bl) (hok:dY c=true) (hl:c.bl.length=5*c.bm) (hf:(Mc.ofC c).fetch.fine=true) (hp:jo (Mc.ofC c).aG=false\/(jo (Mc.ofC c).aG=true/\(Mc.ofC c).fetch.r.s=true)) (hfs:(((Mc.ofC c).fetch.aH (((Mc.ofC c).r.p+2*(Mc.ofC c).dh)%65536)).doI (Mc.ofC c).aG (Mc.ofC c).r.p).fine=false) :
  Calls prog 82 #[.agg #[.slice a 4 ca,.slice b 4 cb,iv c.r.o,iv c.r.p,iv c.r.f,iv c.r.m,.bool c.r.s,.bool c.r.t,.slice e 512 ce,.slice q c.bm cq,.bool c.st,.bool c.ha]] w fun r w'=>∃gd cd ga cA g1 c1 g2 c2 mid:Nat,r=.returned (.tuple #[.agg (eP (dm c) gd cd ga cA g1 c1 g2 c2),.agg (ftC (fE c))])/\CO w' w.heap.size mid (dm c) gd ga g1 g2 c2/\Kept 0 0 w w':=by
 have HG:=aba (GM.of hok hl c.st);have h4:=HG.o.g.d4;have h5:=HG.o.g.a4;have hbx:=HG.o.bx;have hbm:=HG.o.bm;have K0:=aba (ah (ah (kept_alloc w (.cells #[.slice a 4 ca,.slice b 4 cb,iv c.r.o,iv c.r.p,iv c.r.f,iv c.r.m,.bool c.r.s,.bool c.r.t,.slice e 512 ce,.slice q c.bm cq,.bool c.st,.bool c.ha] 40)) (.cells cpZ 40)) (.cells ftZ 42));have B0:=((Blk.new w #[.slice a 4 ca,.slice b 4 cb,iv c.r.o,iv c.r.p,iv c.r.f,iv c.r.m,.bool c.r.s,.bool c.r.t,.slice e 512 ce,.slice q c.bm cq,.bool c.st,.bool c.ha] 40).alloc (.cells cpZ 40)).alloc (.cells ftZ 42);have B1:=(Blk.new (w.alloc (.cells #[.slice a 4 ca,.slice b 4 cb,iv c.r.o,iv c.r.p,iv c.r.f,iv c.r.m,.bool c.r.s,.bool c.r.t,.slice e 512 ce,.slice q c.bm cq,.bool c.st,.bool c.ha] 40)) cpZ 40).alloc (.cells ftZ 42);have B2:=Blk.new ((w.alloc (.cells #[.slice a 4 ca,.slice b 4 cb,iv c.r.o,iv c.r.p,iv c.r.f,iv c.r.m,.bool c.r.s,.bool c.r.t,.slice e 512 ce,.slice q c.bm cq,.bool c.st,.bool c.ha] 40)).alloc (.cells cpZ 40)) ftZ 42;simp only[World.size_alloc]at B1 B2;obtain⟨X,hX⟩:∃X:World,((w.alloc (.cells #[.slice a 4 ca,.slice b 4 cb,iv c.r.o,iv c.r.p,iv c.r.f,iv c.r.m,.bool c.r.s,.bool c.r.t,.slice e 512 ce,.slice q c.bm cq,.bool c.st,.bool c.ha] 40)).alloc (.cells cpZ 40)).alloc (.cells ftZ 42)=X:=⟨_,rfl⟩
 rw[hX]at K0 B0 B1 B2;have hxs:X.heap.size=w.heap.size+3:=by rw[<-hX];simp
 have HXS:=aba hxs;have HB0:=aba B0;have HB1:=aba B1;have HB2:=aba B2;have HA:=aba (ha.ag K0.o);have HB:=aba (hb.ag K0.o);have HE:=aba (he.ag K0.o);have HQ:=aba (hq.ag K0.o);have HAw:=aba ha;have HBw:=aba hb;clear B0 B1 B2 ha hb he hq hxs;have i0:=HB0.o.all;obtain⟨hin,hfn⟩:=pV hf;have hpp0:0<=(Mc.ofC c).r.p:=HG.o.p0;have hpp1:(Mc.ofC c).r.p<=65535:=HG.o.p1;have HGd:Hid (GM ((Mc.ofC c).fetch.aH (((Mc.ofC c).r.p+2*(Mc.ofC c).dh)%65536))):=aba ((GM.fetch HG.o).aH (by omega) (by omega));have hfd:((Mc.ofC c).fetch.aH (((Mc.ofC c).r.p+2*(Mc.ofC c).dh)%65536)).fine=true:=hf;have HGs:=aba (HGd.o.doI hin (Mc.ofC c).r.p);have HDO:=fun w9 mid hi p g3 h9=>mDo w9 X.heap.size mid hi p g3 ((Mc.ofC c).fetch.aH (((Mc.ofC c).r.p+2*(Mc.ofC c).dh)%65536)) (Mc.ofC c).aG (Mc.ofC c).r.p h9 HGd.o hin hpp0 hpp1 hfd
 have ES:Pl.stepM c=((Mc.ofC c).fetch.aH (((Mc.ofC c).r.p+2*(Mc.ofC c).dh)%65536)).doI (Mc.ofC c).aG (Mc.ofC c).r.p:=by
  have e1:(Mc.ofC c).s1=(Mc.ofC c).fetch:=by unfold Mc.s1;rw[hf];rcases hp with q|⟨q,r⟩<;>(first|rw[q,r]|rw[q])<;>rfl
  unfold Pl.stepM Mc.s2;rw[e1,hf];rfl
 obtain⟨sd,hsd⟩:∃s,((Mc.ofC c).fetch.aH (((Mc.ofC c).r.p+2*(Mc.ofC c).dh)%65536)).doI (Mc.ofC c).aG (Mc.ofC c).r.p=s:=⟨_,rfl⟩
 rw[hsd]at HGs hfs ES;simp only[hsd]at HDO;clear hsd;have EC:Hid (dm c=Mc.cpu {(sd.bC c.r) with st:=c.st} false):=aba (by unfold dm;rw[ES,hfs];rfl);have EF:Hid (fE c=sd.f):=aba (by unfold fE;rw[ES,hfs];rfl);have HBL:Hid (w.heap.size<X.heap.size):=aba (by have:=HXS.o;omega)
 obtain⟨pb,HPV,hs⟩:∃pb,Hid (jo ⟨(Mc.ofC c).aG.op,(Mc.ofC c).aG.z,(Mc.ofC c).aG.r,(Mc.ofC c).aG.m,(Mc.ofC c).aG.k,(Mc.ofC c).aG.e,(Mc.ofC c).aG.s⟩=pb)/\(pb=true->(Mc.ofC c).fetch.r.s=true):=by
  rcases hp with q|⟨q,r⟩
  ·exact⟨false,q,by simp⟩
  ·exact⟨true,q,fun _=>r⟩
 have hmk:=qN ((Mc.ofC c).r.p+2*(Mc.ofC c).dh);have hn0:1<=(Mc.ofC c).dh:=by omega
 have hn1:(Mc.ofC c).dh<=2:=by omega
 clear ES hp hfn hin hfd;cases pb
 all_goals
  go_enter func82,ntmps82;go_wp2_with (first|(go_at_call 112;have z9:=HM6;refine st (bY _ X.heap.size mid W1.heap.size p g6 _ HM6.o) ?_;rw[hfs])|(go_at_call 111;have z9:=HMd;refine(HDO _ mid W1.heap.size p g3 HMd.o).mono ?_;rintro e9 W6⟨rfl,g6,hm9,hb9⟩;have HM6:=aba hm9;have HL6:=aba (HLd.o.trans (jm hb9 HMd.o.xy HLd.o.size));have HK6:=aba (fA K0.o HL6.o K0.o.size);have HZ6:=aba (HB0.o.below HL6.o HBL.o);clear hb9 x0 t3 t6 t11 f3 f11 i0;have i0:=HZ6.o.cell (i:=0) rfl;have i1:=HZ6.o.cell (i:=1) rfl;have i2:=HZ6.o.cell (i:=2) rfl;have i3:=HZ6.o.cell (i:=3) rfl;have i4:=HZ6.o.cell (i:=4) rfl;have i5:=HZ6.o.cell (i:=5) rfl;have i6:=HZ6.o.cell (i:=6) rfl;have i7:=HZ6.o.cell (i:=7) rfl;have i8:=HZ6.o.cell (i:=8) rfl;have i9:=HZ6.o.cell (i:=9) rfl;have i10:=HZ6.o.cell (i:=10) rfl;have i11:=HZ6.o.cell (i:=11) rfl;obtain⟨gd6,cd6,ga6,ca6,g16,c16,c26,hB9,hO9⟩:=hm9;have HB6:=aba hB9;have HO6:=aba hO9;have hpw6:=hB9.lt;clear hB9 hO9)|(go_at_call 112;have z9:=HMd;refine st (bY _ X.heap.size mid W1.heap.size p g3 _ HM5.o) ?_;rw[hf])|(go_at_call 112;have z9:=HBm;refine st (bY _ X.heap.size mid W1.heap.size p g3 _ HMZ.o) ?_;rw[hf])|(go_at_call 109;refine(vP _ c a b e q ca cb ce cq HA.o HB.o HE.o HQ.o h4 h5 hbx hl hbm).mono ?_;rintro e9 W1⟨mid,p,g2,rfl,hm9,hp9,k9⟩;have HM1:=aba hm9;have HK1:=aba k9;have HP1:=aba hp9;have HL1:=aba (dM k9 (Nat.le_refl X.heap.size));obtain⟨_,_,_,_,_,_,_,hB9,_⟩:=hm9;have hpw1:=hB9.lt;have t3:=(MB.cells hB9).2.2.2.1;clear hp9 k9 hB9)|(go_at_call 135;refine(yB _ X.heap.size mid W1.heap.size p g2 (Mc.ofC c) HM1.o HG.o).mono ?_;rintro e9 W2⟨rfl,g3,hm9,hb9⟩;have HM2:=aba hm9;have HS2:=aba hb9;have HL2:=aba (HL1.o.trans (jm hb9 HM1.o.xy HL1.o.size));clear hm9 hb9 t3;unfold nH;have KZ:=kept_alloc W2 (.cells #[iv (Mc.ofC c).aG.op,iv (Mc.ofC c).aG.z,iv (Mc.ofC c).aG.r,iv (Mc.ofC c).aG.m,iv (Mc.ofC c).aG.k,iv (Mc.ofC c).aG.e,iv (Mc.ofC c).aG.s] 48);have BZ:=Blk.new W2 #[iv (Mc.ofC c).aG.op,iv (Mc.ofC c).aG.z,iv (Mc.ofC c).aG.r,iv (Mc.ofC c).aG.m,iv (Mc.ofC c).aG.k,iv (Mc.ofC c).aG.e,iv (Mc.ofC c).aG.s] 48;obtain⟨Z,hZ⟩:∃Z:World,W2.alloc (.cells #[iv (Mc.ofC c).aG.op,iv (Mc.ofC c).aG.z,iv (Mc.ofC c).aG.r,iv (Mc.ofC c).aG.m,iv (Mc.ofC c).aG.k,iv (Mc.ofC c).aG.e,iv (Mc.ofC c).aG.s] 48)=Z:=⟨_,rfl⟩;rw[hZ]at KZ BZ;have HBZ:=aba BZ;have HMZ:=aba (HM2.o.any KZ);have HLZ:=aba (HL2.o.trans (dM KZ (Nat.le_trans (Nat.le_refl X.heap.size) HL2.o.size)));have HKZ:=aba (fA K0.o HLZ.o K0.o.size);clear KZ BZ;have HZB:=aba (HB0.o.below HLZ.o HBL.o);clear i0;have i0:=HZB.o.cell (i:=0) rfl;have i1:=HZB.o.cell (i:=1) rfl;have i2:=HZB.o.cell (i:=2) rfl;have i3:=HZB.o.cell (i:=3) rfl;have i4:=HZB.o.cell (i:=4) rfl;have i5:=HZB.o.cell (i:=5) rfl;have i6:=HZB.o.cell (i:=6) rfl;have i7:=HZB.o.cell (i:=7) rfl;have i8:=HZB.o.cell (i:=8) rfl;have i9:=HZB.o.cell (i:=9) rfl;have i10:=HZB.o.cell (i:=10) rfl;have i11:=HZB.o.cell (i:=11) rfl;have hzm:=HMZ.o;obtain⟨gd,cd,ga,cA,g1,c1,c2,hB9,hO9⟩:=hzm;have HBm:=aba hB9;have HOm:=aba hO9;have hpz:=hB9.lt;clear hB9 hO9;have x0:=HBZ.o.all;have hzx:=HBZ.o.lt)|(go_at_call 110;have z9:=HBm;refine(uY _ (Mc.ofC c).aG.op (Mc.ofC c).aG.z (Mc.ofC c).aG.r (Mc.ofC c).aG.m (Mc.ofC c).aG.k (Mc.ofC c).aG.e (Mc.ofC c).aG.s).mono ?_;rintro e9 W5⟨rfl,k9⟩;rw[HPV.o];have HM5:=aba (HMZ.o.any k9);have HB5:=aba (HBm.o.any k9);have HO5:=aba (HOm.o.any k9);have HZ5:=aba (HZB.o.ae k9);have HL5:=aba (HLZ.o.trans (dM k9 (Nat.le_trans (Nat.le_refl X.heap.size) HLZ.o.size)));have HK5:=aba (HKZ.o.trans k9);have HX5:=aba (HBZ.o.ae k9);clear k9 x0 i0;have i0:=HZ5.o.cell (i:=0) rfl;have i1:=HZ5.o.cell (i:=1) rfl;have i2:=HZ5.o.cell (i:=2) rfl;have i3:=HZ5.o.cell (i:=3) rfl;have i4:=HZ5.o.cell (i:=4) rfl;have i5:=HZ5.o.cell (i:=5) rfl;have i6:=HZ5.o.cell (i:=6) rfl;have i7:=HZ5.o.cell (i:=7) rfl;have i8:=HZ5.o.cell (i:=8) rfl;have i9:=HZ5.o.cell (i:=9) rfl;have i10:=HZ5.o.cell (i:=10) rfl;have i11:=HZ5.o.cell (i:=11) rfl;have x0:=HX5.o.all;obtain⟨t0,t1,t2,t3,t4,t5,t6,t7,t8,t9,t10,t11,_⟩:=HB5.o.cells;have f11:=HB5.o.frozen 11;have f3:=HB5.o.frozen 3;have hpw5:=HB5.o.lt;clear t0 t1 t2 t4 t5 t7 t8 t9 t10;(first|rw[hs rfl]at t6|skip);have HMd:Hid (MAt (W5.setCell (abb p 3) (iv (((Mc.ofC c).r.p+2*(Mc.ofC c).dh)%65536))) X.heap.size mid W1.heap.size p g3 ((Mc.ofC c).fetch.aH (((Mc.ofC c).r.p+2*(Mc.ofC c).dh)%65536))):=aba (HM5.o.cP (((Mc.ofC c).r.p+2*(Mc.ofC c).dh)%65536));have HLd:=aba (HL5.o.setCell (p:=(abb p 3)) HP1.o (iv (((Mc.ofC c).r.p+2*(Mc.ofC c).dh)%65536)));have hpx:p<W2.heap.size:=HM2.o.lo.2.2.2.2.1)|(go_at_call 114;have z9:=HB6;refine(own4 _ c.r a b ca cb (HAw.o.ag HK6.o) (HBw.o.ag HK6.o) h4 h5).mono ?_;unfold jK;rintro e9 W3⟨gd',cd',ga',ca',rfl,od,oa,d0,d1,a0,a1,da,k9⟩;have hplt:=HB6.o.lt;have HD3:=aba od;have HA3:=aba oa;have HB3:=aba (HB6.o.any k9);have HO3:=aba (HO6.o.any k9);have HK3:=aba (HK6.o.trans k9);have HZ3:=aba (HZ6.o.ae k9);have HL3:=aba (HL6.o.trans (dM k9 (Nat.le_trans (Nat.le_refl X.heap.size) HL6.o.size)));clear od oa k9 i0;have i10:=HZ3.o.cell (i:=10) rfl;obtain⟨u0,u1,u2,u3,u4,u5,u6,u7,u8,u9,u10,u11,u12,u13,u14,u15⟩:=HB3.o.cells;have q0:=HB3.o.frozen 0;have q1:=HB3.o.frozen 1;have q2:=HB3.o.frozen 2;have q3:=HB3.o.frozen 3;have q4:=HB3.o.frozen 4;have q5:=HB3.o.frozen 5;have q6:=HB3.o.frozen 6;have q7:=HB3.o.frozen 7;have q10:=HB3.o.frozen 10));have hd3:=HD3.o.lt (by rw[h4];decide);have KP:=(MB.lN (w:=W3) (p:=p) (.slice (some (abb gd' 0)) 4 cd') (.slice (some (abb ga' 0)) 4 ca') (iv c.r.o) (iv c.r.p) (iv c.r.f) (iv c.r.m) (.bool c.r.s) (.bool c.r.t)).one 10 (.bool c.st);have MY:MB (((((((((W3.setCell (abb p 0) ((.slice (some (abb gd' 0)) 4 cd'))).setCell (abb p 1) ((.slice (some (abb ga' 0)) 4 ca'))).setCell (abb p 2) ((iv c.r.o))).setCell (abb p 3) ((iv c.r.p))).setCell (abb p 4) ((iv c.r.f))).setCell (abb p 5) ((iv c.r.m))).setCell (abb p 6) ((.bool c.r.s))).setCell (abb p 7) ((.bool c.r.t))).setCell (abb p 10) (.bool c.st)) p gd' cd' ga' ca' g16 c16 g6 c26 {(sd.bC c.r) with st:=c.st}:=(HB3.o.laid2 c.r gd' cd' ga' ca').cSt c.st;generalize (((((((((W3.setCell (abb p 0) ((.slice (some (abb gd' 0)) 4 cd'))).setCell (abb p 1) ((.slice (some (abb ga' 0)) 4 ca'))).setCell (abb p 2) ((iv c.r.o))).setCell (abb p 3) ((iv c.r.p))).setCell (abb p 4) ((iv c.r.f))).setCell (abb p 5) ((iv c.r.m))).setCell (abb p 6) ((.bool c.r.s))).setCell (abb p 7) ((.bool c.r.t))).setCell (abb p 10) (.bool c.st))=Y at KP MY ⊢;have hop:=HO3.o.p0;have hob:=HO3.o.b0;have hog:=HO3.o.g2;have hobl:=HO3.o.pb;have hopl:=HO3.o.pl;have hos:=HO3.o.d0;have hos2:=HO3.o.d1;have HYd:=aba (HD3.o.ag KP (by omega)).row;have HYa:=aba (HA3.o.ag KP (by omega)).row;have HYb:=aba (HO3.o.b.ag KP (by omega)).row;have HYl:=aba ((cZ HO3.o.l).ag KP (by omega)).row;have KDY:=aba (ai (Kept.refl 0 0 Y));have HMY:=aba (MY.any KDY.o);have LY:=aba ((HL3.o.trans (tV KP (by omega) (by have:=HL3.o.size;omega))).drew);have HKY:=aba (fA K0.o LY.o K0.o.size);have Oe:=aba (HB1.o.below LY.o (by have:=HXS.o;omega));have Oc:=aba (HB2.o.below LY.o (by have:=HXS.o;omega));have HN1:Hid (¬(w.heap.size+1<=p/\p<w.heap.size+1+1)):=aba (by have:=HXS.o;omega);have HN2:Hid (¬(w.heap.size+1+1<=p/\p<w.heap.size+1+1+1)):=aba (by have:=HXS.o;omega);have CF:∀W:World,MB W p gd' cd' ga' ca' g16 c16 g6 c26 {(sd.bC c.r) with st:=c.st}->W.cell? (abb p 11)=some (iv sd.f.v)/\W.cell? (abb p 12)=some (iv sd.f.pc)/\W.cell? (abb p 13)=some (iv sd.f.ad)/\W.cell? (abb p 14)=some (iv sd.f.wo)/\W.cell? (abb p 15)=some (.bool sd.f.wr):=fun W h=>by have z:=Dq h;exact z
  have SY:=CF _ HMY.o;have hyz:X.heap.size<=Y.drew.heap.size:=LY.o.size;clear KP MY;go_region_held3 (fun w'=>w'.cell? (abb p 11)=some (iv sd.f.v)/\w'.cell? (abb p 12)=some (iv sd.f.pc)/\w'.cell? (abb p 13)=some (iv sd.f.ad)/\w'.cell? (abb p 14)=some (iv sd.f.wo)/\w'.cell? (abb p 15)=some (.bool sd.f.wr)) (first|with_reducible exact SY|with_reducible exact S4|with_reducible exact CF _ (HM4.o.sO HN1.o _ _ _ _ _ _ _ _ _ _ _ _)|with_reducible exact CF _ ((HM4.o.sO HN1.o _ _ _ _ _ _ _ _ _ _ _ _).Jv HN2.o _ _ _ _ _)|go_keep) (first|(go_at_call 113;refine(En _ p gd' cd' ga' ca' g16 c16 g6 c26 {(sd.bC c.r) with st:=c.st} HMY.o (HYd.o.ag KDY.o) (HYa.o.ag KDY.o) (HYb.o.ag KDY.o) (HYl.o.ag KDY.o) h4 h5 HGs.o.bx HGs.o.bl HGs.o.bm).mono ?_;unfold eP;rintro e9 W4⟨gd4,cd4,ga4,ca4,g14,c14,g24,c24,mid4,rfl,hc9,k9⟩;have HC:=aba hc9;have HM4:=aba (HMY.o.any k9);have S4:=CF _ HM4.o;have HK4:=aba (HKY.o.trans k9);have aX:=aba (Oe.o.ae k9);have fB:=aba (Oc.o.ae k9);have hs4:=fB.o.lt;clear hc9 k9;have o0:=aX.o.cell (i:=0) rfl;have of0:=aX.o.frozen 0;have o1:=aX.o.cell (i:=1) rfl;have of1:=aX.o.frozen 1;have o2:=aX.o.cell (i:=2) rfl;have of2:=aX.o.frozen 2;have o3:=aX.o.cell (i:=3) rfl;have of3:=aX.o.frozen 3;have o4:=aX.o.cell (i:=4) rfl;have of4:=aX.o.frozen 4;have o5:=aX.o.cell (i:=5) rfl;have of5:=aX.o.frozen 5;have o6:=aX.o.cell (i:=6) rfl;have of6:=aX.o.frozen 6;have o7:=aX.o.cell (i:=7) rfl;have of7:=aX.o.frozen 7;have o8:=aX.o.cell (i:=8) rfl;have of8:=aX.o.frozen 8;have o9:=aX.o.cell (i:=9) rfl;have of9:=aX.o.frozen 9;have o10:=aX.o.cell (i:=10) rfl;have of10:=aX.o.frozen 10;have o11:=aX.o.cell (i:=11) rfl;have of11:=aX.o.frozen 11;have y0:=fB.o.cell (i:=0) rfl;have yf0:=fB.o.frozen 0;have y1:=fB.o.cell (i:=1) rfl;have yf1:=fB.o.frozen 1;have y2:=fB.o.cell (i:=2) rfl;have yf2:=fB.o.frozen 2;have y3:=fB.o.cell (i:=3) rfl;have yf3:=fB.o.frozen 3;have y4:=fB.o.cell (i:=4) rfl;have yf4:=fB.o.frozen 4));go_wp2_with fail;have hxs:=HXS.o;refine bodyPost_ret (v:=.tuple #[.agg (eP (dm c) gd4 cd4 ga4 ca4 g14 c14 g24 c24),.agg (ftC (fE c))]) ?_ rfl ⟨gd4,cd4,ga4,ca4,g14,c14,g24,c24,mid4,rfl,?co,?kw⟩
  case co=>
   rw[EC.o];refine HC.o.DZ (x:=w.heap.size+1) (y:=w.heap.size+3) (by omega) (by omega) ?_;repeat (first|with_reducible exact Kept.refl _ _ _|refine af ?_ _ _ _ (.inl (by omega)))
  case kw=>repeat (first|with_reducible exact HK4.o|refine af ?_ _ _ _ (.inr (by omega)))
  rw[jS rfl,EC.o,EF.o];go_simp;exact⟨rfl,rfl⟩
theorem XI (w:World) (c:Cp) (a b e q:Option Addr) (ca cb ce cq:Nat) (ha:aF w a c.r.xs) (hb:aF w b c.r.ys) (he:aF w e c.bx) (hq:aF w q c.bl) (hok:dY c=true) (hl:c.bl.length=5*c.bm) :
  Calls prog 82 #[.agg #[.slice a 4 ca,.slice b 4 cb,iv c.r.o,iv c.r.p,iv c.r.f,iv c.r.m,.bool c.r.s,.bool c.r.t,.slice e 512 ce,.slice q c.bm cq,.bool c.st,.bool c.ha]] w fun r w'=>∃gd cd ga cA g1 c1 g2 c2 mid:Nat,r=.returned (.tuple #[.agg (eP (dm c) gd cd ga cA g1 c1 g2 c2),.agg (ftC (fE c))])/\CO w' w.heap.size mid (dm c) gd ga g1 g2 c2/\Kept 0 0 w w':=by
 cases hf:(Mc.ofC c).fetch.fine
 ·exact zV w c a b e q ca cb ce cq ha hb he hq hok hl hf
 ·by_cases hn:jo (Mc.ofC c).aG=true/\(Mc.ofC c).fetch.r.s=false
  ·exact CQ w c a b e q ca cb ce cq ha hb he hq hok hl hf hn.1 hn.2
  ·have hp:jo (Mc.ofC c).aG=false\/(jo (Mc.ofC c).aG=true/\(Mc.ofC c).fetch.r.s=true):=by
    cases h1:jo (Mc.ofC c).aG
    ·exact .inl rfl
    ·cases h2:(Mc.ofC c).fetch.r.s
     ·exact absurd ⟨h1,h2⟩ hn
     ·exact .inr ⟨rfl,rfl⟩
   cases hfs:(((Mc.ofC c).fetch.aH (((Mc.ofC c).r.p+2*(Mc.ofC c).dh)%65536)).doI (Mc.ofC c).aG (Mc.ofC c).r.p).fine
   ·exact Gm w c a b e q ca cb ce cq ha hb he hq hok hl hf hp hfs
   ·exact JW w c a b e q ca cb ce cq ha hb he hq hok hl hf hp hfs
theorem Pl.GM.step {c:Cp} (h:dY c=true) (hl:c.bl.length=5*c.bm):GM (Pl.stepM c):=by
 have g:GM (Mc.ofC c):=GM.of h hl c.st;have gf:=GM.fetch g
 have h1:GM (Mc.ofC c).s1:=by
  unfold Mc.s1;cases ((Mc.ofC c).fetch.fine&&(jo (Mc.ofC c).aG && !(Mc.ofC c).fetch.r.s))
  ·exact gf
  ·exact gf.ft _
 unfold Pl.stepM Mc.s2;cases hs:(Mc.ofC c).s1.fine
 ·exact h1
 ·have hf:(Mc.ofC c).fetch.fine=true:=by
   cases q:(Mc.ofC c).fetch.fine
   ·unfold Mc.s1 at hs;rw[q]at hs;simp only[Bool.false_and,cond_false]at hs;rw[q]at hs;exact hs
   ·rfl
  exact(h1.aH (by omega) (by omega)).doI (pV hf).1 _
end Go.Proofs.YtgikibaajanjiaaGreatDoor
