/- Part 7 of what the last text leans on. -/
import Derived.Test.YtkkmnnhaailkcaaGreatDoorJA6
import Derived.Test.YtkkmnnhaailkcaaGreatDoorJA1
import Derived.Test.YtkkmnnhaailkcaaGreatDoorJA2
set_option maxRecDepth 100000
set_option maxHeartbeats 16000000
namespace Go.Proofs.YtkkmnnhaailkcaaGreatDoor
open Go.RowKit Go.Proofs.Tryz
set_option linter.unusedVariables false
theorem Pl.yK {z a:Int} (hz:z=1∨z=2) (h0:0≤a) (h1:a≤65535):Pl.fQ 1 z a 0=true:=by
 rcases hz with rfl|rfl<;>simp [Pl.fQ,Pl.dY,Pl.okv,Pl.top,Pl.addr]<;>omega
theorem IZ (w:World) (lo mid hi p g2:Nat) (c:Pl.Mc) (z m k x:Int) (h:MAt w lo mid hi p g2 c) (G:Pl.GM c) (hz:z=1∨z=2) (k0:0≤k) (k1:k≤3) (x0:0≤x) (x1:x≤65535) (hm2:m=2∨m=3∨m=4∨m=5∨m=6) :
  Calls prog 103 #[.pointer (some ⟨p,0,none⟩),iv z,.agg #[iv m,iv k,iv x]] w fun e w'=>e=.returned (.tuple #[iv (c.aY z m k x),iv (c.readA z m k x)])∧∃g3,MAt w' lo mid hi p g3 (c.read z m k x)∧Since w lo hi g2 w' g3:=by
 have hl:=h.lo
 have q0:(m==0)=false:=by simp;omega
 have q1:(m==1)=false:=by simp;omega
 have q7:(m==7)=false:=by simp;omega
 have HG:=hide G
 have KA:=hide (kept_alloc w (.cells #[iv m,iv k,iv x] 107))
 have BA:=Blk.new w #[iv m,iv k,iv x] 107
 obtain ⟨X,hX⟩:∃X:World,w.alloc (.cells #[iv m,iv k,iv x] 107)=X:=⟨_,rfl⟩
 rw [hX] at KA BA
 have b0:=BA.all
 have hbw:=BA.lt
 have h2:=h.any KA.o
 have hl2:=h2.lo
 clear h BA
 have HM:=hide h2
 obtain ⟨gd,cd,ga,ca,g1,c1,c2,HB,HO⟩:=h2.op
 obtain ⟨t0,t1,t2,t3,t4,t5,t6,t7⟩:=HB.o.c8
 have f0:=HB.o.fz
 have hp:=HO.o.p0
 have hd:=HO.o.d0
 have hd1:=HO.o.d1
 have hs:=HB.o.lt
 have HMH:Hid (mid≤hi):=hide (by have:=HO.o.p1;omega)
 have HPH:Hid (lo≤p∧p<hi):=hide (by have:=HO.o.p1;omega)
 have HRD:=hide (MO.reg (r:=c.r) (HO.o.any (ae (Kept.refl 0 0 X))))
 have HOD:=hide (HO.o.any (ae (Kept.refl 0 0 X)))
 have HBD:=hide (HB.o.any (ae (Kept.refl 0 0 X)))
 have HMD:Hid (mid≤X.drew.heap.size):=hide hl2.2.1
 have KZ:Kept 0 0 X (X.drew.alloc (.cells #[.slice none 0 0,.slice none 0 0,iv 0,iv 0,iv 0,iv 0,.bool false,.bool false] 31)):=ah (ae (Kept.refl 0 0 X)) _
 have HRZ:=hide (MO.reg (r:=c.r) (HO.o.any KZ))
 have HOZ:=hide (HO.o.any KZ)
 have HBZ:=hide (HB.o.any KZ)
 have HMZ:Hid (mid≤(X.drew.alloc (.cells #[.slice none 0 0,.slice none 0 0,iv 0,iv 0,iv 0,iv 0,.bool false,.bool false] 31)).heap.size):=hide (by rw [World.size_alloc];exact Nat.le_trans hl2.2.1 (Nat.le_succ _))
 have BZ:Hid (Blk (X.drew.alloc (.cells #[.slice none 0 0,.slice none 0 0,iv 0,iv 0,iv 0,iv 0,.bool false,.bool false] 31)) X.heap.size #[.slice none 0 0,.slice none 0 0,iv 0,iv 0,iv 0,iv 0,.bool false,.bool false] 31):=hide (Blk.new X.drew #[.slice none 0 0,.slice none 0 0,iv 0,iv 0,iv 0,iv 0,.bool false,.bool false] 31)
 have HKZ:=hide KZ
 have hb1:=HO.o.b.lt (by rw [HG.o.bx];decide)
 have hb2:=HO.o.g2.2
 clear KZ
 have HP:=fun (w9:World) (hr:fZ w9 lo mid c.r (some ⟨gd,0,none⟩) (some ⟨ga,0,none⟩)) (hh:mid≤w9.heap.size)=>Ig w9 lo mid gd cd ga ca c.r z m k x hr hh HG.o.g k0 k1 x0 x1 hm2
 have HV:=Pl.iM (m:=m) (z:=z) HG.o.g k0 k1 x0 x1
 have HG2:=G.plc (z:=z) (m:=m) (e:=x) k0 k1
 obtain ⟨R,hR⟩:∃R,Pl.cZ c.r z m k x=R:=⟨_,rfl⟩
 obtain ⟨V,hV⟩:∃V,Pl.bZ c.r z m k x=V:=⟨_,rfl⟩
 simp only [hR,hV,iK] at HP
 rw [hV] at HV
 have HG3:Hid (Pl.GM (c.dh R)):=hide (by unfold Pl.Mc.plc at HG2;rw [hR] at HG2;exact HG2)
 have HA3:=hide (Pl.yK hz HV.1 HV.2)
 have E:Hid (c.read z m k x=(c.dh R).acc 1 z V 0):=hide (by unfold Pl.Mc.read Pl.Mc.gI Pl.Mc.plc;rw [q0,q1,q7,hR,hV];rfl)
 have E2:Hid (c.aY z m k x=(c.dh R).jE 1 z V 0):=hide (by unfold Pl.Mc.aY Pl.Mc.plc;rw [q0,q1,q7,hR,hV];rfl)
 have E3:Hid (c.readA z m k x=V):=hide (by unfold Pl.Mc.readA Pl.Mc.gI;rw [q0,q1,q7,hV];rfl)
 clear hR hV HG2 HV
 have HNZ:Hid (¬(lo≤X.heap.size∧X.heap.size<mid)):=hide (by have q:=hl2.2.1;omega)
 have HPZ:Hid (p<X.heap.size):=hide hs
 clear G
 go_enter func103,ntmps103
 go_wp2_with fail
 go_region_with (first|(go_at_call 142;refine (HP _ HRD.o HMD.o).mono ?_;rintro e9 W ⟨rfl,hr9,hk9⟩;have HO2:=hide (HOD.o.regs hr9 hk9);have HB2:=hide (HBD.o.regs hk9 hp);have HK2:=hide hk9;have HA1:=hide hk9;have hpW:=HB2.o.lt;clear hr9 hk9;clear t0 t1 t2 t3 t4 t5 t6 t7 f0;obtain ⟨t0,t1,t2,t3,t4,t5,t6,t7,_⟩:=HB2.o.cells;have f0:=HB2.o.frozen 0;have f1:=HB2.o.frozen 1;have f2:=HB2.o.frozen 2;have f3:=HB2.o.frozen 3;have f4:=HB2.o.frozen 4;have f5:=HB2.o.frozen 5;have f6:=HB2.o.frozen 6;have f7:=HB2.o.frozen 7)|(go_at_call 142;refine (HP _ HRZ.o HMZ.o).mono ?_;rintro e9 W ⟨rfl,hr9,hk9⟩;have HO2:=hide (HOZ.o.regs hr9 hk9);have HB2:=hide (HBZ.o.regs hk9 hp);have HK2:=hide hk9;have HA2:=hide hk9;have BZ2:=hide (Blk.kept BZ.o hk9 HNZ.o);clear hr9 hk9;clear t0 t1 t2 t3 t4 t5 t6 t7 f0;obtain ⟨t0,t1,t2,t3,t4,t5,t6,t7,_⟩:=HB2.o.cells;have f0:=HB2.o.frozen 0;have f1:=HB2.o.frozen 1;have f2:=HB2.o.frozen 2;have f3:=HB2.o.frozen 3;have f4:=HB2.o.frozen 4;have f5:=HB2.o.frozen 5;have f6:=HB2.o.frozen 6;have f7:=HB2.o.frozen 7;have y0:=BZ2.o.cell (i:=0) rfl;have v0:=BZ2.o.frozen 0;have y1:=BZ2.o.cell (i:=1) rfl;have v1:=BZ2.o.frozen 1;have y2:=BZ2.o.cell (i:=2) rfl;have v2:=BZ2.o.frozen 2;have y3:=BZ2.o.cell (i:=3) rfl;have v3:=BZ2.o.frozen 3;have y4:=BZ2.o.cell (i:=4) rfl;have v4:=BZ2.o.frozen 4;have y5:=BZ2.o.cell (i:=5) rfl;have v5:=BZ2.o.frozen 5;have y6:=BZ2.o.cell (i:=6) rfl;have v6:=BZ2.o.frozen 6;have y7:=BZ2.o.cell (i:=7) rfl;have v7:=BZ2.o.frozen 7))
 all_goals
  go_wp2_with fail
  refine (gW _ lo mid hi p g2 (c.dh R) 1 z V 0 ?hm HG3.o HA3.o).mono ?_
  case hm=>
   first
    | (have z9:=HA1;exact (MAt.laid HB2.o HO2.o).any (kept_alloc _ _))
    | (have z9:=HA2;exact MAt.laid (HB2.o.past (MB.jb _ _ _ _ _ _ _ _) HPZ.o) (HO2.o.past (MB.jb _ _ _ _ _ _ _ _) hl2.2.1 hb1 hb2))
  rintro e9 W2 ⟨rfl,g3,hm9,hb9⟩
  have HM2:=hide hm9
  have HL2:Hid (Since w lo hi g2 W2 g3):=by
   first
    | (have z9:=HA1;exact hide (((fG (((Since.refl w lo hi g2).any KA.o).drew.ai HK2.o (Nat.le_refl _) HMH.o) (.inl HPH.o) _ _ _ _ _ _ _ _).alloc _).trans hb9))
    | (have z9:=HA2;exact hide ((fG (fG ((((Since.refl w lo hi g2).any KA.o).any HKZ.o).ai HK2.o (Nat.le_refl _) HMH.o) (.inr KA.o.size) _ _ _ _ _ _ _ _) (.inl HPH.o) _ _ _ _ _ _ _ _).trans hb9))
  clear hm9 hb9
  go_wp2_with fail
  go_ret2
  exact ⟨rII E2.o.symm E3.o.symm,g3,by rw [E.o];exact HM2.o,HL2.o⟩
theorem jJ (w:World) (lo mid hi p g2:Nat) (c:Pl.Mc) (z m k x:Int) (h:MAt w lo mid hi p g2 c) (G:Pl.GM c) (hz:z=1∨z=2) (k0:0≤k) (k1:k≤3) (x0:0≤x) (x1:x≤65535) (m0:0≤m) (m1:m≤7) :
  Calls prog 103 #[.pointer (some ⟨p,0,none⟩),iv z,.agg #[iv m,iv k,iv x]] w fun e w'=>e=.returned (.tuple #[iv (c.aY z m k x),iv (c.readA z m k x)])∧∃g3,MAt w' lo mid hi p g3 (c.read z m k x)∧Since w lo hi g2 w' g3:=by
 by_cases hm:m=2∨m=3∨m=4∨m=5∨m=6
 ·exact IZ w lo mid hi p g2 c z m k x h G hz k0 k1 x0 x1 hm
 have hl:=h.lo
 have hm':m=0∨m=1∨m=7:=by omega
 have HG:=hide G
 rcases hm' with rfl|rfl|rfl
 ·have E:Hid (c.aY z 0 k x=el c.r.xs k.toNat%Pl.top z):=hide rfl
  have KA:=hide (kept_alloc w (.cells #[iv 0,iv k,iv x] 107))
  have BA:=Blk.new w #[iv 0,iv k,iv x] 107
  obtain ⟨X,hX⟩:∃X:World,w.alloc (.cells #[iv 0,iv k,iv x] 107)=X:=⟨_,rfl⟩
  rw [hX] at KA BA
  have b0:=BA.all
  have hbw:=BA.lt
  have h2:=h.any KA.o
  have hl2:=h2.lo
  clear h BA
  have HM:=hide h2
  obtain ⟨gd,cd,ga,ca,g1,c1,c2,HB,HO⟩:=h2.op
  obtain ⟨t0,t1,t2,t3,t4,t5,t6,t7⟩:=HB.o.c8
  have f0:=HB.o.fz
  have hp:=HO.o.p0
  have hd:=HO.o.d0
  have hd1:=HO.o.d1
  have hs:=HB.o.lt
  have HMH:Hid (mid≤hi):=hide (by have:=HO.o.p1;omega)
  have HPH:Hid (lo≤p∧p<hi):=hide (by have:=HO.o.p1;omega)
  have HD:=hide (HO.o.any (ae (Kept.refl 0 0 X))).d
  clear G hm
  go_enter func103,ntmps103
  go_wp2_with fail
  go_region_with (go_at_call 105;refine (wF _ gd cd ga ca c.r z k HD.o HG.o.g hz k0 k1).mono ?_;rintro e9 W ⟨rfl,hk9⟩;have HK:=hide hk9;clear hk9)
  all_goals
   go_wp2_with fail
   go_ret2
   exact ⟨rII E.o.symm rfl,g2,HM.o.any ((ae (Kept.refl 0 0 X)).trans HK.o),((Since.refl w lo hi g2).any KA.o).drew.any HK.o⟩
 ·obtain ⟨n,rfl⟩:∃n:Nat,k=(n:Int):=⟨k.toNat,by omega⟩
  have k4:(n:Int)<4:=by omega
  have E:Hid (c.aY z 1 n x=el c.r.ys n):=hide rfl
  have KA:=hide (kept_alloc w (.cells #[iv 1,iv (n:Int),iv x] 107))
  have BA:=Blk.new w #[iv 1,iv (n:Int),iv x] 107
  obtain ⟨X,hX⟩:∃X:World,w.alloc (.cells #[iv 1,iv (n:Int),iv x] 107)=X:=⟨_,rfl⟩
  rw [hX] at KA BA
  have b0:=BA.all
  have hbw:=BA.lt
  have h2:=h.any KA.o
  have hl2:=h2.lo
  clear h BA
  have HM:=hide h2
  obtain ⟨gd,cd,ga,ca,g1,c1,c2,HB,HO⟩:=h2.op
  obtain ⟨t0,t1,t2,t3,t4,t5,t6,t7⟩:=HB.o.c8
  have f0:=HB.o.fz
  have hp:=HO.o.p0
  have hd:=HO.o.d0
  have hd1:=HO.o.d1
  have hs:=HB.o.lt
  have HMH:Hid (mid≤hi):=hide (by have:=HO.o.p1;omega)
  have HPH:Hid (lo≤p∧p<hi):=hide (by have:=HO.o.p1;omega)
  obtain ⟨hc,_⟩:=jH HO.o.a n (by rw [HG.o.g.a4];omega)
  clear G hm
  go_enter func103,ntmps103
  go_wp2_with fail
  go_region
  go_wp2_with fail
  go_ret2
  exact ⟨rII E.o.symm rfl,g2,HM.o.any (ae (Kept.refl 0 0 X)),((Since.refl w lo hi g2).any KA.o).drew⟩
 ·have E:Hid (c.aY z 7 k x=x):=hide rfl
  have KA:=hide (kept_alloc w (.cells #[iv 7,iv k,iv x] 107))
  have BA:=Blk.new w #[iv 7,iv k,iv x] 107
  obtain ⟨X,hX⟩:∃X:World,w.alloc (.cells #[iv 7,iv k,iv x] 107)=X:=⟨_,rfl⟩
  rw [hX] at KA BA
  have b0:=BA.all
  have hbw:=BA.lt
  have h2:=h.any KA.o
  have hl2:=h2.lo
  clear h BA
  have HM:=hide h2
  obtain ⟨gd,cd,ga,ca,g1,c1,c2,HB,HO⟩:=h2.op
  obtain ⟨t0,t1,t2,t3,t4,t5,t6,t7⟩:=HB.o.c8
  have f0:=HB.o.fz
  have hp:=HO.o.p0
  have hd:=HO.o.d0
  have hd1:=HO.o.d1
  have hs:=HB.o.lt
  have HMH:Hid (mid≤hi):=hide (by have:=HO.o.p1;omega)
  have HPH:Hid (lo≤p∧p<hi):=hide (by have:=HO.o.p1;omega)
  clear G hm
  go_enter func103,ntmps103
  go_wp2_with fail
  go_ret2
  exact ⟨rII E.o.symm rfl,g2,HM.o,(Since.refl w lo hi g2).any KA.o⟩
theorem pG {fn:Func} {p u1 u2:Tmp} {ty:TypeId} (h:fn.results=#[.cell p ty,.tmp u1,.tmp u2]) (tmps:Array Value) (P:Program) (w:World) :
  (results fn tmps).run P w=((asAddr (tmps.getD p undef)).run P w).andThen fun a w₁=>((loadVar ty a).run P w₁).andThen fun v w₂=>.ok (.tuple #[v,tmps.getD u1 undef,tmps.getD u2 undef]) w₂:=by
 simp only [results,h]
 simp [Sem.run_bind,Result.andThen]
theorem Pl.and7 (a:Int):bits .and .i64 a 7=a%8:=by
 show IntKind.i64.wrap ((BitVec.ofInt 64 a &&& BitVec.ofInt 64 7).toNat:Int)=_
 rw [BitVec.toNat_and,BitVec.toNat_ofInt,show (BitVec.ofInt 64 7).toNat=2^3-1 from by decide,Nat.and_two_pow_sub_one_eq_mod,IntKind.wrap_i64]
 omega
theorem Pl.Wq (a:Int):bits .and .i64 a 3=a%4:=by
 show IntKind.i64.wrap ((BitVec.ofInt 64 a &&& BitVec.ofInt 64 3).toNat:Int)=_
 rw [BitVec.toNat_and,BitVec.toNat_ofInt,show (BitVec.ofInt 64 3).toNat=2^2-1 from by decide,Nat.and_two_pow_sub_one_eq_mod,IntKind.wrap_i64]
 omega
theorem lD (m:Int) (w:World):Calls prog 138 #[iv m] w fun e w'=>e=.returned (.bool (Pl.kD m))∧w'=w:=by
 go_enter func138,ntmps138
 go_wp2_with (go_at_call 40;refine (dW _ _ _ _).mono ?_;rintro e w' ⟨rfl,hw⟩;have hw2:=hw.symm;clear hw;subst hw2)
 go_ret
 exact ⟨rfl,rfl⟩
theorem jk (m:Int) (w:World):Calls prog 139 #[iv m] w fun e w'=>e=.returned (.bool (Pl.fH m))∧w'=w:=by
 cases h1:(m==2)<;>cases h2:(m==5)<;>cases h3:(m==6)
 all_goals
  go_enter func139,ntmps139
  go_wp2
  go_ret
  exact ⟨rB (by simp only [Pl.fH,h1,h2,h3];rfl),rfl⟩
theorem eU (m k e:Int) (w:World):Calls prog 141 #[.agg #[iv m,iv k,iv e]] w fun r w'=>r=.returned (.bool (Pl.iw m k e))∧Kept 0 0 w w':=by
 have K0:=hide (kept_alloc w (.cells #[iv m,iv k,iv e] 107))
 cases h1:(m==0)<;>cases h2:(k==0)<;>cases h3:(e==0)
 all_goals
  go_enter func141,ntmps141
  go_wp2
  go_ret
  exact ⟨rB (by simp only [Pl.iw,h1,h2,h3];rfl),K0.o⟩
theorem lC (m k e:Int) (w:World):Calls prog 140 #[.agg #[iv m,iv k,iv e]] w fun r w'=>r=.returned (.bool (Pl.jv m e))∧Kept 0 0 w w':=by
 have K0:=hide (kept_alloc w (.cells #[iv m,iv k,iv e] 107))
 cases h1:(m==7)<;>cases h2:decide (e≤1023)
 all_goals
  go_enter func140,ntmps140
  go_wp2
  go_ret
  exact ⟨rB (by simp only [Pl.jv,h1,h2];rfl),K0.o⟩
theorem xJ (op:Int):op=1∨op=2∨op=3∨op=4∨op=5∨op=6∨op=7∨op=8∨op=9∨op=10∨op=11∨op=12∨op=13∨op=14∨op=15∨op=16∨op=17∨op=18∨op=19∨(¬op=1∧¬op=2∧¬op=3∧¬op=4∧¬op=5∧¬op=6∧¬op=7∧¬op=8∧¬op=9∧¬op=10∧¬op=11∧¬op=12∧¬op=13∧¬op=14∧¬op=15∧¬op=16∧¬op=17∧¬op=18∧¬op=19):=by omega
end Go.Proofs.YtkkmnnhaailkcaaGreatDoor
