/- Part 4 of what the last text leans on. -/
import Derived.Test.YtblddehlkaolbaaGreatDoorJA3
import Derived.Test.YtblddehlkaolbaaGreatDoorJA1
import Derived.Test.YtblddehlkaolbaaGreatDoorJA2
import Derived.Deep.DeepCutAuto
import Derived.Deep.RegionHeld3
set_option maxRecDepth 100000
set_option maxHeartbeats 16000000
namespace Go.Proofs.YtblddehlkaolbaaGreatDoor
open Go.RowKit Go.Proofs.Tryz
set_option linter.unusedVariables false
theorem JL (z:Int) (hz:z=1∨z=2) (w:World):Calls prog 116 #[iv z] w fun e w'=>e=.returned (iv (Pl.top z))∧w'=w:=by
 rcases hz with rfl|rfl
 ·exact iV w
 ·exact iU w
theorem wG (w:World) (gd cd ga ca:Nat) (r:Pl.Rg) (z k:Int) (hD:Own w gd r.xs) (hg:Pl.Good r) (hz:z=1∨z=2) (k0:0≤k) (k1:k≤3) :
  Calls prog 74 #[iK r gd cd ga ca,iv z,iv k] w fun e w'=>e=.returned (iv (el r.xs k.toNat%Pl.top z))∧Kept 0 0 w w':=by
 obtain ⟨n,rfl⟩:∃n:Nat,k=(n:Int):=⟨k.toNat,by omega⟩
 have hn:n<4:=by omega
 have k4:(n:Int)<4:=by omega
 have hA:=jH (hD.ai (kept_alloc w (.cells #[.slice (some ⟨gd,0,none⟩) 4 cd,.slice (some ⟨ga,0,none⟩) 4 ca,iv r.o,iv r.p,iv r.f,iv r.m,.bool r.s,.bool r.t] 31)) (by omega)) n (by rw [hg.d4];omega)
 obtain ⟨hc,_⟩:=hA
 have HE:Hid (bits .and .i64 (el r.xs n) (Pl.top z-1)=el r.xs n%Pl.top z):=hide (by
  rcases hz with rfl|rfl
  ·exact Pl.dK _
  ·exact Pl.fU _)
 have HT:=JL z hz
 have hT:256≤Pl.top z∧Pl.top z≤65536:=by rcases hz with rfl|rfl<;>decide
 obtain ⟨hT0,hT1⟩:=hT
 have hK:=hide (kept_alloc w (.cells #[.slice (some ⟨gd,0,none⟩) 4 cd,.slice (some ⟨ga,0,none⟩) 4 ca,iv r.o,iv r.p,iv r.f,iv r.m,.bool r.s,.bool r.t] 31))
 have hg4:=Blk.lt (Blk.new w #[.slice (some ⟨gd,0,none⟩) 4 cd,.slice (some ⟨ga,0,none⟩) 4 ca,iv r.o,iv r.p,iv r.f,iv r.m,.bool r.s,.bool r.t] 31)
 clear hD hg hg4
 unfold iK
 generalize Pl.top z=T at *
 clear hz
 go_enter func74,ntmps74
 go_wp2_with fail
 go_region_with (go_at_call 116;refine st (HT _) ?_)
 all_goals
  go_wp2_with fail
  go_ret
  exact ⟨rI (by rw [IntKind.wrap_i64,show (T-1+9223372036854775808)%18446744073709551616-9223372036854775808=T-1 by omega];exact HE.o),ae hK.o⟩
theorem Jc (w:World) (lo mid hi p g2:Nat) (c:Pl.Mc) (v:Int) (h:MAt w lo mid hi p g2 c) :
  Calls prog 124 #[.pointer (some ⟨p,0,none⟩),iv v] w fun e w'=>e=.returned (.tuple #[])∧∃g3,MAt w' lo mid hi p g3 (c.raise v)∧Since w lo hi g2 w' g3:=by
 have hl:=h.lo
 have HM:=hide h
 obtain ⟨gd,cd,ga,ca,g1,c1,c2,HB,HO⟩:=h.op
 have t3:=HB.o.k3
 have t11:=HB.o.k11
 have t12:=HB.o.k12
 have f11:=HB.o.frozen 11
 have f12:=HB.o.frozen 12
 go_enter func124,ntmps124
 go_wp2_with fail
 go_end0
 have hp:=HO.o.p0
 have hd:=HO.o.d0
 have hd1:=HO.o.d1
 have KK:=(ak w p 11 (iv v)).one 12 (iv c.r.p)
 have hq:(lo≤p∧p<hi)∨w.heap.size≤p:=by have:=HO.o.p1;omega
 exact ⟨rfl,g2,⟨gd,cd,ga,ca,g1,c1,c2,(HB.o.cV v).cPc c.r.p,HO.o.own KK⟩,((Since.refl _ _ _ _).set p 11 _ hq).set p 12 _ hq⟩
theorem gG {z f v:Int} (w:World) (hv:Pl.okv z v=true) (hf:Pl.flags f=true):Calls prog 76 #[iv z,iv f,iv v] w fun e w'=>e=.returned (iv (Pl.aQ z f v))∧w'=w:=by
 have e:Pl.aQ z f v=bits .or .i64 (bits .and .i64 f 16) (bits .or .i64 (Pl.fl (v==0) 4) (Pl.fl (decide (Pl.sg z v<0)) 8)):=by unfold Pl.aQ;rw [hv,hf];rfl
 rw [e]
 exact Ov z f v w hv
theorem Dw (w:World) (lo mid hi p g2:Nat) (c:Pl.Mc) (z k v:Int) (h:MAt w lo mid hi p g2 c) (G:Pl.GM c) (k0:0≤k) (k1:k≤3) (hv:Pl.okv z v=true) :
  Calls prog 126 #[.pointer (some ⟨p,0,none⟩),iv z,iv k,iv v] w fun e w'=>e=.returned (.tuple #[])∧∃g3,MAt w' lo mid hi p g3 (c.data z k v)∧Since w lo hi g2 w' g3:=by
 have hl:=h.lo
 have HF:=hide (Pl.bG G)
 have HG:=hide ((G.aB (Pl.dX z c.r.f v hv (Pl.bG G)).1 (Pl.dX z c.r.f v hv (Pl.bG G)).2).g)
 have HM:=hide h
 obtain ⟨gd,cd,ga,ca,g1,c1,c2,HB,HO⟩:=h.op
 obtain ⟨t0,t1,t2,t3,t4,t5,t6,t7⟩:=HB.o.c8
 have f0:=HB.o.fz
 have hp:=HO.o.p0
 have hd:=HO.o.d0
 have hd1:=HO.o.d1
 have hs:=HB.o.lt
 have K1:=hide (ak w p 4 (iv (Pl.aQ z c.r.f v)))
 have HO1:=hide (HO.o.own K1.o)
 have HB1:=hide (HB.o.cF (Pl.aQ z c.r.f v))
 clear G
 go_enter func126,ntmps126
 go_wp2_with (first|(go_at_call 76;refine st (gG _ hv HF.o) ?_)|(go_at_call 79;refine (qH _ lo mid gd cd ga ca {c.r with f:=Pl.aQ z c.r.f v} z k v (MO.reg (r:={c.r with f:=Pl.aQ z c.r.f v}) HO1.o) (by simp;omega) HG.o k0 k1 hv).mono ?_;unfold iK;rintro e9 W ⟨rfl,hr9,hk9⟩;have HO2:=hide (HO1.o.regs hr9 hk9);have HB2:=hide (HB1.o.regs hk9 hp);have HK2:=hide hk9;clear hr9 hk9 t0 t1 t2 t3 t4 t5 t6 t7 f0;obtain ⟨t0,t1,t2,t3,t4,t5,t6,t7,_⟩:=HB2.o.cells;have f0:=HB2.o.frozen 0;have f1:=HB2.o.frozen 1;have f2:=HB2.o.frozen 2;have f3:=HB2.o.frozen 3;have f4:=HB2.o.frozen 4;have f5:=HB2.o.frozen 5;have f6:=HB2.o.frozen 6;have f7:=HB2.o.frozen 7))
 go_end0
 have hq:(lo≤p∧p<hi)∨w.heap.size≤p:=by have:=HO.o.p1;omega
 have hm9:=HO.o.p1
 exact ⟨rfl,g2,MAt.laid HB2.o HO2.o,fG (((Since.refl w lo hi g2).set p 4 _ hq).ai HK2.o (Nat.le_refl _) (by omega)) hq _ _ _ _ _ _ _ _⟩
theorem xQ (w:World) (lo mid hi p g2:Nat) (c:Pl.Mc) (z m k x a v:Int) (h:MAt w lo mid hi p g2 c) (G:Pl.GM c) (k0:0≤k) (k1:k≤3) (a0:0≤a) (a1:a≤65535) (hv:Pl.okv z v=true) :
  Calls prog 75 #[.pointer (some ⟨p,0,none⟩),iv z,.agg #[iv m,iv k,iv x],iv a,iv v] w fun e w'=>e=.returned (.tuple #[])∧∃g3,MAt w' lo mid hi p g3 (c.write z m k a v)∧Since w lo hi g2 w' g3:=by
 have hl:=h.lo
 cases hm:(m==0)
 ·have KA:=hide (kept_alloc w (.cells #[iv m,iv k,iv x] 77))
  have E:Hid (c.write z m k a v=c.acc 2 z a v):=hide (by unfold Pl.Mc.write;rw [hm];rfl)
  have HM1:=hide (h.any KA.o)
  have HG:=hide G
  have HA:Hid (Pl.fQ 2 z a v=true):=hide (by simp [Pl.fQ,Pl.dY,Pl.addr,hv];omega)
  clear G h
  go_enter func75,ntmps75
  go_wp2_with (go_at_call 68;refine (gW _ lo mid hi p g2 c 2 z a v HM1.o HG.o HA.o).mono ?_;rintro e9 W ⟨rfl,g3,hm9,hb9⟩;have HM2:=hide hm9;have HL2:=hide hb9;clear hm9 hb9)
  go_end0
  exact ⟨rfl,g3,by rw [E.o];exact HM2.o,((Since.refl w lo hi g2).any KA.o).trans HL2.o⟩
 ·have E:Hid (c.write z m k a v=c.dh (Pl.jr c.r z k v)):=hide (by unfold Pl.Mc.write;rw [hm];rfl)
  have HG:=hide G.g
  have KA:=hide (kept_alloc w (.cells #[iv m,iv k,iv x] 77))
  have BA:=Blk.new w #[iv m,iv k,iv x] 77
  obtain ⟨X,hX⟩:∃X:World,w.alloc (.cells #[iv m,iv k,iv x] 77)=X:=⟨_,rfl⟩
  rw [hX] at KA BA
  have b0:=BA.all
  have hbw:=BA.lt
  have h2:=h.any KA.o
  have hl2:=h2.lo
  clear h BA
  have HM:=hide h2
  obtain ⟨gd,cd,ga,ca,g1,c1,c2,HB,HO⟩:=h2.op
  obtain ⟨t0,t1,t2,t3,t4,t5,t6,t7⟩:=HB.o.c8
  have f0:=HB.o.fz
  have hp:=HO.o.p0
  have hd:=HO.o.d0
  have hd1:=HO.o.d1
  have hs:=HB.o.lt
  have HMH:Hid (mid≤hi):=hide (by have:=HO.o.p1;omega)
  have HPH:Hid (lo≤p∧p<hi):=hide (by have:=HO.o.p1;omega)
  have HRD:=hide (MO.reg (r:=c.r) (HO.o.any (ae (Kept.refl 0 0 X))))
  have HOD:=hide (HO.o.any (ae (Kept.refl 0 0 X)))
  have HBD:=hide (HB.o.any (ae (Kept.refl 0 0 X)))
  have HMD:Hid (mid≤X.drew.heap.size):=hide hl2.2.1
  clear G
  go_enter func75,ntmps75
  go_wp2_with fail
  go_region_with (go_at_call 79;refine (qH _ lo mid gd cd ga ca c.r z k v HRD.o HMD.o HG.o k0 k1 hv).mono ?_;unfold iK;rintro e9 W ⟨rfl,hr9,hk9⟩;have HO2:=hide (HOD.o.regs hr9 hk9);have HB2:=hide (HBD.o.regs hk9 hp);have HK2:=hide hk9;clear hr9 hk9;clear t0 t1 t2 t3 t4 t5 t6 t7 f0;obtain ⟨t0,t1,t2,t3,t4,t5,t6,t7,_⟩:=HB2.o.cells;have f0:=HB2.o.frozen 0;have f1:=HB2.o.frozen 1;have f2:=HB2.o.frozen 2;have f3:=HB2.o.frozen 3;have f4:=HB2.o.frozen 4;have f5:=HB2.o.frozen 5;have f6:=HB2.o.frozen 6;have f7:=HB2.o.frozen 7)
  all_goals
   go_wp2_with fail
   first|go_end0|refine bodyPost_ret (results_none rfl _ _ _) rfl ?_
   exact ⟨rfl,g2,by rw [E.o];exact MAt.laid HB2.o HO2.o,fG (((Since.refl w lo hi g2).any KA.o).drew.ai HK2.o (Nat.le_refl _) HMH.o) (.inl HPH.o) _ _ _ _ _ _ _ _⟩
theorem sS (w:World) (lo mid hi p g2:Nat) (c:Pl.Mc) (z m k x:Int) (h:MAt w lo mid hi p g2 c) (G:Pl.GM c) (k0:0≤k) (k1:k≤3) (x0:0≤x) (x1:x≤65535) (hm1:m=0∨m=2∨m=3∨m=4∨m=5∨m=6) :
  Calls prog 73 #[.pointer (some ⟨p,0,none⟩),iv z,.agg #[iv m,iv k,iv x]] w fun e w'=>e=.returned (iv (c.iL z m k x))∧∃g3,MAt w' lo mid hi p g3 (c.place z m k x)∧Since w lo hi g2 w' g3:=by
 have hl:=h.lo
 cases hm:(m==0)
 ·have hm2:m=2∨m=3∨m=4∨m=5∨m=6:=by simp at hm;omega
  have HG:=hide G
  have KA:=hide (kept_alloc w (.cells #[iv m,iv k,iv x] 77))
  have BA:=Blk.new w #[iv m,iv k,iv x] 77
  obtain ⟨X,hX⟩:∃X:World,w.alloc (.cells #[iv m,iv k,iv x] 77)=X:=⟨_,rfl⟩
  rw [hX] at KA BA
  have b0:=BA.all
  have hbw:=BA.lt
  have h2:=h.any KA.o
  have hl2:=h2.lo
  clear h BA
  have HM:=hide h2
  obtain ⟨gd,cd,ga,ca,g1,c1,c2,HB,HO⟩:=h2.op
  obtain ⟨t0,t1,t2,t3,t4,t5,t6,t7⟩:=HB.o.c8
  have f0:=HB.o.fz
  have hp:=HO.o.p0
  have hd:=HO.o.d0
  have hd1:=HO.o.d1
  have hs:=HB.o.lt
  have HMH:Hid (mid≤hi):=hide (by have:=HO.o.p1;omega)
  have HPH:Hid (lo≤p∧p<hi):=hide (by have:=HO.o.p1;omega)
  have HRD:=hide (MO.reg (r:=c.r) (HO.o.any (ae (Kept.refl 0 0 X))))
  have HOD:=hide (HO.o.any (ae (Kept.refl 0 0 X)))
  have HBD:=hide (HB.o.any (ae (Kept.refl 0 0 X)))
  have HMD:Hid (mid≤X.drew.heap.size):=hide hl2.2.1
  have KZ:Kept 0 0 X (X.drew.alloc (.cells #[.slice none 0 0,.slice none 0 0,iv 0,iv 0,iv 0,iv 0,.bool false,.bool false] 31)):=ah (ae (Kept.refl 0 0 X)) _
  have HRZ:=hide (MO.reg (r:=c.r) (HO.o.any KZ))
  have HOZ:=hide (HO.o.any KZ)
  have HBZ:=hide (HB.o.any KZ)
  have HMZ:Hid (mid≤(X.drew.alloc (.cells #[.slice none 0 0,.slice none 0 0,iv 0,iv 0,iv 0,iv 0,.bool false,.bool false] 31)).heap.size):=hide (by rw [World.size_alloc];exact Nat.le_trans hl2.2.1 (Nat.le_succ _))
  have BZ:Hid (Blk (X.drew.alloc (.cells #[.slice none 0 0,.slice none 0 0,iv 0,iv 0,iv 0,iv 0,.bool false,.bool false] 31)) X.heap.size #[.slice none 0 0,.slice none 0 0,iv 0,iv 0,iv 0,iv 0,.bool false,.bool false] 31):=hide (Blk.new X.drew #[.slice none 0 0,.slice none 0 0,iv 0,iv 0,iv 0,iv 0,.bool false,.bool false] 31)
  have HKZ:=hide KZ
  have hb1:=HO.o.b.lt (by rw [HG.o.bx];decide)
  have hb2:=HO.o.g2.2
  clear KZ
  have HP:=fun (w9:World) (hr:fZ w9 lo mid c.r (some ⟨gd,0,none⟩) (some ⟨ga,0,none⟩)) (hh:mid≤w9.heap.size)=>Ii w9 lo mid gd cd ga ca c.r z m k x hr hh HG.o.g k0 k1 x0 x1 hm2
  obtain ⟨R,hR⟩:∃R,Pl.cZ c.r z m k x=R:=⟨_,rfl⟩
  obtain ⟨V,hV⟩:∃V,Pl.bZ c.r z m k x=V:=⟨_,rfl⟩
  simp only [hR,hV,iK] at HP
  have E:Hid (c.place z m k x=c.dh R):=hide (by unfold Pl.Mc.place Pl.Mc.plc;rw [hm,hR];rfl)
  have E2:Hid (c.iL z m k x=V):=hide (by unfold Pl.Mc.iL;rw [hm,hV];rfl)
  clear hR hV
  have HNZ:Hid (¬(lo≤X.heap.size∧X.heap.size<mid)):=hide (by have q:=hl2.2.1;omega)
  have HPZ:Hid (p<X.heap.size):=hide hs
  clear G hm1
  go_enter func73,ntmps73
  go_wp2_with fail
  go_region_with (first|(go_at_call 115;refine (HP _ HRD.o HMD.o).mono ?_;rintro e9 W ⟨rfl,hr9,hk9⟩;have HO2:=hide (HOD.o.regs hr9 hk9);have HB2:=hide (HBD.o.regs hk9 hp);have HK2:=hide hk9;have HA1:=hide hk9;have hpW:=HB2.o.lt;clear hr9 hk9;clear t0 t1 t2 t3 t4 t5 t6 t7 f0;obtain ⟨t0,t1,t2,t3,t4,t5,t6,t7,_⟩:=HB2.o.cells;have f0:=HB2.o.frozen 0;have f1:=HB2.o.frozen 1;have f2:=HB2.o.frozen 2;have f3:=HB2.o.frozen 3;have f4:=HB2.o.frozen 4;have f5:=HB2.o.frozen 5;have f6:=HB2.o.frozen 6;have f7:=HB2.o.frozen 7)|(go_at_call 115;refine (HP _ HRZ.o HMZ.o).mono ?_;rintro e9 W ⟨rfl,hr9,hk9⟩;have HO2:=hide (HOZ.o.regs hr9 hk9);have HB2:=hide (HBZ.o.regs hk9 hp);have HK2:=hide hk9;have HA2:=hide hk9;have BZ2:=hide (Blk.kept BZ.o hk9 HNZ.o);clear hr9 hk9;clear t0 t1 t2 t3 t4 t5 t6 t7 f0;obtain ⟨t0,t1,t2,t3,t4,t5,t6,t7,_⟩:=HB2.o.cells;have f0:=HB2.o.frozen 0;have f1:=HB2.o.frozen 1;have f2:=HB2.o.frozen 2;have f3:=HB2.o.frozen 3;have f4:=HB2.o.frozen 4;have f5:=HB2.o.frozen 5;have f6:=HB2.o.frozen 6;have f7:=HB2.o.frozen 7;have y0:=BZ2.o.cell (i:=0) rfl;have v0:=BZ2.o.frozen 0;have y1:=BZ2.o.cell (i:=1) rfl;have v1:=BZ2.o.frozen 1;have y2:=BZ2.o.cell (i:=2) rfl;have v2:=BZ2.o.frozen 2;have y3:=BZ2.o.cell (i:=3) rfl;have v3:=BZ2.o.frozen 3;have y4:=BZ2.o.cell (i:=4) rfl;have v4:=BZ2.o.frozen 4;have y5:=BZ2.o.cell (i:=5) rfl;have v5:=BZ2.o.frozen 5;have y6:=BZ2.o.cell (i:=6) rfl;have v6:=BZ2.o.frozen 6;have y7:=BZ2.o.cell (i:=7) rfl;have v7:=BZ2.o.frozen 7))
  all_goals
   go_wp2_with fail
   go_ret
   rw [E.o]
   first
    | (have z9:=HA1;exact ⟨rI E2.o.symm,g2,(MAt.laid HB2.o HO2.o).any (kept_alloc _ _),(fG (((Since.refl w lo hi g2).any KA.o).drew.ai HK2.o (Nat.le_refl _) HMH.o) (.inl HPH.o) _ _ _ _ _ _ _ _).alloc _⟩)
    | (have z9:=HA2;exact ⟨rI E2.o.symm,g2,MAt.laid (HB2.o.past (MB.jb _ _ _ _ _ _ _ _) HPZ.o) (HO2.o.past (MB.jb _ _ _ _ _ _ _ _) hl2.2.1 hb1 hb2),fG (fG ((((Since.refl w lo hi g2).any KA.o).any HKZ.o).ai HK2.o (Nat.le_refl _) HMH.o) (.inr KA.o.size) _ _ _ _ _ _ _ _) (.inl HPH.o) _ _ _ _ _ _ _ _⟩)
 ·have KA:=hide (kept_alloc w (.cells #[iv m,iv k,iv x] 77))
  have E:Hid (c.place z m k x=c):=hide (by unfold Pl.Mc.place;rw [hm];rfl)
  have E2:Hid (c.iL z m k x=0):=hide (by unfold Pl.Mc.iL;rw [hm];rfl)
  have HM:=hide (h.any KA.o)
  clear h G
  go_enter func73,ntmps73
  go_wp2_with fail
  go_ret
  exact ⟨rI E2.o.symm,g2,by rw [E.o];exact HM.o,(Since.refl w lo hi g2).any KA.o⟩
theorem Pl.yM {z a:Int} (hz:z=1∨z=2) (h0:0≤a) (h1:a≤65535):Pl.fQ 1 z a 0=true:=by
 rcases hz with rfl|rfl<;>simp [Pl.fQ,Pl.dY,Pl.okv,Pl.top,Pl.addr]<;>omega
theorem Jb (w:World) (lo mid hi p g2:Nat) (c:Pl.Mc) (z m k x:Int) (h:MAt w lo mid hi p g2 c) (G:Pl.GM c) (hz:z=1∨z=2) (k0:0≤k) (k1:k≤3) (x0:0≤x) (x1:x≤65535) (hm2:m=2∨m=3∨m=4∨m=5∨m=6) :
  Calls prog 72 #[.pointer (some ⟨p,0,none⟩),iv z,.agg #[iv m,iv k,iv x]] w fun e w'=>e=.returned (.tuple #[iv (c.aY z m k x),iv (c.readA z m k x)])∧∃g3,MAt w' lo mid hi p g3 (c.read z m k x)∧Since w lo hi g2 w' g3:=by
 have hl:=h.lo
 have q0:(m==0)=false:=by simp;omega
 have q1:(m==1)=false:=by simp;omega
 have q7:(m==7)=false:=by simp;omega
 have HG:=hide G
 have KA:=hide (kept_alloc w (.cells #[iv m,iv k,iv x] 77))
 have BA:=Blk.new w #[iv m,iv k,iv x] 77
 obtain ⟨X,hX⟩:∃X:World,w.alloc (.cells #[iv m,iv k,iv x] 77)=X:=⟨_,rfl⟩
 rw [hX] at KA BA
 have b0:=BA.all
 have hbw:=BA.lt
 have h2:=h.any KA.o
 have hl2:=h2.lo
 clear h BA
 have HM:=hide h2
 obtain ⟨gd,cd,ga,ca,g1,c1,c2,HB,HO⟩:=h2.op
 obtain ⟨t0,t1,t2,t3,t4,t5,t6,t7⟩:=HB.o.c8
 have f0:=HB.o.fz
 have hp:=HO.o.p0
 have hd:=HO.o.d0
 have hd1:=HO.o.d1
 have hs:=HB.o.lt
 have HMH:Hid (mid≤hi):=hide (by have:=HO.o.p1;omega)
 have HPH:Hid (lo≤p∧p<hi):=hide (by have:=HO.o.p1;omega)
 have HRD:=hide (MO.reg (r:=c.r) (HO.o.any (ae (Kept.refl 0 0 X))))
 have HOD:=hide (HO.o.any (ae (Kept.refl 0 0 X)))
 have HBD:=hide (HB.o.any (ae (Kept.refl 0 0 X)))
 have HMD:Hid (mid≤X.drew.heap.size):=hide hl2.2.1
 have KZ:Kept 0 0 X (X.drew.alloc (.cells #[.slice none 0 0,.slice none 0 0,iv 0,iv 0,iv 0,iv 0,.bool false,.bool false] 31)):=ah (ae (Kept.refl 0 0 X)) _
 have HRZ:=hide (MO.reg (r:=c.r) (HO.o.any KZ))
 have HOZ:=hide (HO.o.any KZ)
 have HBZ:=hide (HB.o.any KZ)
 have HMZ:Hid (mid≤(X.drew.alloc (.cells #[.slice none 0 0,.slice none 0 0,iv 0,iv 0,iv 0,iv 0,.bool false,.bool false] 31)).heap.size):=hide (by rw [World.size_alloc];exact Nat.le_trans hl2.2.1 (Nat.le_succ _))
 have BZ:Hid (Blk (X.drew.alloc (.cells #[.slice none 0 0,.slice none 0 0,iv 0,iv 0,iv 0,iv 0,.bool false,.bool false] 31)) X.heap.size #[.slice none 0 0,.slice none 0 0,iv 0,iv 0,iv 0,iv 0,.bool false,.bool false] 31):=hide (Blk.new X.drew #[.slice none 0 0,.slice none 0 0,iv 0,iv 0,iv 0,iv 0,.bool false,.bool false] 31)
 have HKZ:=hide KZ
 have hb1:=HO.o.b.lt (by rw [HG.o.bx];decide)
 have hb2:=HO.o.g2.2
 clear KZ
 have HP:=fun (w9:World) (hr:fZ w9 lo mid c.r (some ⟨gd,0,none⟩) (some ⟨ga,0,none⟩)) (hh:mid≤w9.heap.size)=>Ii w9 lo mid gd cd ga ca c.r z m k x hr hh HG.o.g k0 k1 x0 x1 hm2
 have HV:=Pl.iM (m:=m) (z:=z) HG.o.g k0 k1 x0 x1
 have HG2:=G.plc (z:=z) (m:=m) (e:=x) k0 k1
 obtain ⟨R,hR⟩:∃R,Pl.cZ c.r z m k x=R:=⟨_,rfl⟩
 obtain ⟨V,hV⟩:∃V,Pl.bZ c.r z m k x=V:=⟨_,rfl⟩
 simp only [hR,hV,iK] at HP
 rw [hV] at HV
 have HG3:Hid (Pl.GM (c.dh R)):=hide (by unfold Pl.Mc.plc at HG2;rw [hR] at HG2;exact HG2)
 have HA3:=hide (Pl.yM hz HV.1 HV.2)
 have E:Hid (c.read z m k x=(c.dh R).acc 1 z V 0):=hide (by unfold Pl.Mc.read Pl.Mc.gI Pl.Mc.plc;rw [q0,q1,q7,hR,hV];rfl)
 have E2:Hid (c.aY z m k x=(c.dh R).jE 1 z V 0):=hide (by unfold Pl.Mc.aY Pl.Mc.plc;rw [q0,q1,q7,hR,hV];rfl)
 have E3:Hid (c.readA z m k x=V):=hide (by unfold Pl.Mc.readA Pl.Mc.gI;rw [q0,q1,q7,hV];rfl)
 clear hR hV HG2 HV
 have HNZ:Hid (¬(lo≤X.heap.size∧X.heap.size<mid)):=hide (by have q:=hl2.2.1;omega)
 have HPZ:Hid (p<X.heap.size):=hide hs
 clear G
 go_enter func72,ntmps72
 go_wp2_with fail
 go_region_with (first|(go_at_call 115;refine (HP _ HRD.o HMD.o).mono ?_;rintro e9 W ⟨rfl,hr9,hk9⟩;have HO2:=hide (HOD.o.regs hr9 hk9);have HB2:=hide (HBD.o.regs hk9 hp);have HK2:=hide hk9;have HA1:=hide hk9;have hpW:=HB2.o.lt;clear hr9 hk9;clear t0 t1 t2 t3 t4 t5 t6 t7 f0;obtain ⟨t0,t1,t2,t3,t4,t5,t6,t7,_⟩:=HB2.o.cells;have f0:=HB2.o.frozen 0;have f1:=HB2.o.frozen 1;have f2:=HB2.o.frozen 2;have f3:=HB2.o.frozen 3;have f4:=HB2.o.frozen 4;have f5:=HB2.o.frozen 5;have f6:=HB2.o.frozen 6;have f7:=HB2.o.frozen 7)|(go_at_call 115;refine (HP _ HRZ.o HMZ.o).mono ?_;rintro e9 W ⟨rfl,hr9,hk9⟩;have HO2:=hide (HOZ.o.regs hr9 hk9);have HB2:=hide (HBZ.o.regs hk9 hp);have HK2:=hide hk9;have HA2:=hide hk9;have BZ2:=hide (Blk.kept BZ.o hk9 HNZ.o);clear hr9 hk9;clear t0 t1 t2 t3 t4 t5 t6 t7 f0;obtain ⟨t0,t1,t2,t3,t4,t5,t6,t7,_⟩:=HB2.o.cells;have f0:=HB2.o.frozen 0;have f1:=HB2.o.frozen 1;have f2:=HB2.o.frozen 2;have f3:=HB2.o.frozen 3;have f4:=HB2.o.frozen 4;have f5:=HB2.o.frozen 5;have f6:=HB2.o.frozen 6;have f7:=HB2.o.frozen 7;have y0:=BZ2.o.cell (i:=0) rfl;have v0:=BZ2.o.frozen 0;have y1:=BZ2.o.cell (i:=1) rfl;have v1:=BZ2.o.frozen 1;have y2:=BZ2.o.cell (i:=2) rfl;have v2:=BZ2.o.frozen 2;have y3:=BZ2.o.cell (i:=3) rfl;have v3:=BZ2.o.frozen 3;have y4:=BZ2.o.cell (i:=4) rfl;have v4:=BZ2.o.frozen 4;have y5:=BZ2.o.cell (i:=5) rfl;have v5:=BZ2.o.frozen 5;have y6:=BZ2.o.cell (i:=6) rfl;have v6:=BZ2.o.frozen 6;have y7:=BZ2.o.cell (i:=7) rfl;have v7:=BZ2.o.frozen 7))
 all_goals
  go_wp2_with fail
  refine (gW _ lo mid hi p g2 (c.dh R) 1 z V 0 ?hm HG3.o HA3.o).mono ?_
  case hm=>
   first
    | (have z9:=HA1;exact (MAt.laid HB2.o HO2.o).any (kept_alloc _ _))
    | (have z9:=HA2;exact MAt.laid (HB2.o.past (MB.jb _ _ _ _ _ _ _ _) HPZ.o) (HO2.o.past (MB.jb _ _ _ _ _ _ _ _) hl2.2.1 hb1 hb2))
  rintro e9 W2 ⟨rfl,g3,hm9,hb9⟩
  have HM2:=hide hm9
  have HL2:Hid (Since w lo hi g2 W2 g3):=by
   first
    | (have z9:=HA1;exact hide (((fG (((Since.refl w lo hi g2).any KA.o).drew.ai HK2.o (Nat.le_refl _) HMH.o) (.inl HPH.o) _ _ _ _ _ _ _ _).alloc _).trans hb9))
    | (have z9:=HA2;exact hide ((fG (fG ((((Since.refl w lo hi g2).any KA.o).any HKZ.o).ai HK2.o (Nat.le_refl _) HMH.o) (.inr KA.o.size) _ _ _ _ _ _ _ _) (.inl HPH.o) _ _ _ _ _ _ _ _).trans hb9))
  clear hm9 hb9
  go_wp2_with fail
  go_ret2
  exact ⟨rII E2.o.symm E3.o.symm,g3,by rw [E.o];exact HM2.o,HL2.o⟩
theorem jJ (w:World) (lo mid hi p g2:Nat) (c:Pl.Mc) (z m k x:Int) (h:MAt w lo mid hi p g2 c) (G:Pl.GM c) (hz:z=1∨z=2) (k0:0≤k) (k1:k≤3) (x0:0≤x) (x1:x≤65535) (m0:0≤m) (m1:m≤7) :
  Calls prog 72 #[.pointer (some ⟨p,0,none⟩),iv z,.agg #[iv m,iv k,iv x]] w fun e w'=>e=.returned (.tuple #[iv (c.aY z m k x),iv (c.readA z m k x)])∧∃g3,MAt w' lo mid hi p g3 (c.read z m k x)∧Since w lo hi g2 w' g3:=by
 by_cases hm:m=2∨m=3∨m=4∨m=5∨m=6
 ·exact Jb w lo mid hi p g2 c z m k x h G hz k0 k1 x0 x1 hm
 have hl:=h.lo
 have hm':m=0∨m=1∨m=7:=by omega
 have HG:=hide G
 rcases hm' with rfl|rfl|rfl
 ·have E:Hid (c.aY z 0 k x=el c.r.xs k.toNat%Pl.top z):=hide rfl
  have KA:=hide (kept_alloc w (.cells #[iv 0,iv k,iv x] 77))
  have BA:=Blk.new w #[iv 0,iv k,iv x] 77
  obtain ⟨X,hX⟩:∃X:World,w.alloc (.cells #[iv 0,iv k,iv x] 77)=X:=⟨_,rfl⟩
  rw [hX] at KA BA
  have b0:=BA.all
  have hbw:=BA.lt
  have h2:=h.any KA.o
  have hl2:=h2.lo
  clear h BA
  have HM:=hide h2
  obtain ⟨gd,cd,ga,ca,g1,c1,c2,HB,HO⟩:=h2.op
  obtain ⟨t0,t1,t2,t3,t4,t5,t6,t7⟩:=HB.o.c8
  have f0:=HB.o.fz
  have hp:=HO.o.p0
  have hd:=HO.o.d0
  have hd1:=HO.o.d1
  have hs:=HB.o.lt
  have HMH:Hid (mid≤hi):=hide (by have:=HO.o.p1;omega)
  have HPH:Hid (lo≤p∧p<hi):=hide (by have:=HO.o.p1;omega)
  have HD:=hide (HO.o.any (ae (Kept.refl 0 0 X))).d
  clear G hm
  go_enter func72,ntmps72
  go_wp2_with fail
  go_region_with (go_at_call 74;refine (wG _ gd cd ga ca c.r z k HD.o HG.o.g hz k0 k1).mono ?_;rintro e9 W ⟨rfl,hk9⟩;have HK:=hide hk9;clear hk9)
  all_goals
   go_wp2_with fail
   go_ret2
   exact ⟨rII E.o.symm rfl,g2,HM.o.any ((ae (Kept.refl 0 0 X)).trans HK.o),((Since.refl w lo hi g2).any KA.o).drew.any HK.o⟩
 ·obtain ⟨n,rfl⟩:∃n:Nat,k=(n:Int):=⟨k.toNat,by omega⟩
  have k4:(n:Int)<4:=by omega
  have E:Hid (c.aY z 1 n x=el c.r.ys n):=hide rfl
  have KA:=hide (kept_alloc w (.cells #[iv 1,iv (n:Int),iv x] 77))
  have BA:=Blk.new w #[iv 1,iv (n:Int),iv x] 77
  obtain ⟨X,hX⟩:∃X:World,w.alloc (.cells #[iv 1,iv (n:Int),iv x] 77)=X:=⟨_,rfl⟩
  rw [hX] at KA BA
  have b0:=BA.all
  have hbw:=BA.lt
  have h2:=h.any KA.o
  have hl2:=h2.lo
  clear h BA
  have HM:=hide h2
  obtain ⟨gd,cd,ga,ca,g1,c1,c2,HB,HO⟩:=h2.op
  obtain ⟨t0,t1,t2,t3,t4,t5,t6,t7⟩:=HB.o.c8
  have f0:=HB.o.fz
  have hp:=HO.o.p0
  have hd:=HO.o.d0
  have hd1:=HO.o.d1
  have hs:=HB.o.lt
  have HMH:Hid (mid≤hi):=hide (by have:=HO.o.p1;omega)
  have HPH:Hid (lo≤p∧p<hi):=hide (by have:=HO.o.p1;omega)
  obtain ⟨hc,_⟩:=jH HO.o.a n (by rw [HG.o.g.a4];omega)
  clear G hm
  go_enter func72,ntmps72
  go_wp2_with fail
  go_region
  go_wp2_with fail
  go_ret2
  exact ⟨rII E.o.symm rfl,g2,HM.o.any (ae (Kept.refl 0 0 X)),((Since.refl w lo hi g2).any KA.o).drew⟩
 ·have E:Hid (c.aY z 7 k x=x):=hide rfl
  have KA:=hide (kept_alloc w (.cells #[iv 7,iv k,iv x] 77))
  have BA:=Blk.new w #[iv 7,iv k,iv x] 77
  obtain ⟨X,hX⟩:∃X:World,w.alloc (.cells #[iv 7,iv k,iv x] 77)=X:=⟨_,rfl⟩
  rw [hX] at KA BA
  have b0:=BA.all
  have hbw:=BA.lt
  have h2:=h.any KA.o
  have hl2:=h2.lo
  clear h BA
  have HM:=hide h2
  obtain ⟨gd,cd,ga,ca,g1,c1,c2,HB,HO⟩:=h2.op
  obtain ⟨t0,t1,t2,t3,t4,t5,t6,t7⟩:=HB.o.c8
  have f0:=HB.o.fz
  have hp:=HO.o.p0
  have hd:=HO.o.d0
  have hd1:=HO.o.d1
  have hs:=HB.o.lt
  have HMH:Hid (mid≤hi):=hide (by have:=HO.o.p1;omega)
  have HPH:Hid (lo≤p∧p<hi):=hide (by have:=HO.o.p1;omega)
  clear G hm
  go_enter func72,ntmps72
  go_wp2_with fail
  go_ret2
  exact ⟨rII E.o.symm rfl,g2,HM.o,(Since.refl w lo hi g2).any KA.o⟩
theorem pI {fn:Func} {p u1 u2:Tmp} {ty:TypeId} (h:fn.results=#[.cell p ty,.tmp u1,.tmp u2]) (tmps:Array Value) (P:Program) (w:World) :
  (results fn tmps).run P w=((asAddr (tmps.getD p undef)).run P w).andThen fun a w₁=>((loadVar ty a).run P w₁).andThen fun v w₂=>.ok (.tuple #[v,tmps.getD u1 undef,tmps.getD u2 undef]) w₂:=by
 simp only [results,h]
 simp [Sem.run_bind,Result.andThen]
theorem Pl.and7 (a:Int):bits .and .i64 a 7=a%8:=by
 show IntKind.i64.wrap ((BitVec.ofInt 64 a &&& BitVec.ofInt 64 7).toNat:Int)=_
 rw [BitVec.toNat_and,BitVec.toNat_ofInt,show (BitVec.ofInt 64 7).toNat=2^3-1 from by decide,Nat.and_two_pow_sub_one_eq_mod,IntKind.wrap_i64]
 omega
theorem Pl.Ws (a:Int):bits .and .i64 a 3=a%4:=by
 show IntKind.i64.wrap ((BitVec.ofInt 64 a &&& BitVec.ofInt 64 3).toNat:Int)=_
 rw [BitVec.toNat_and,BitVec.toNat_ofInt,show (BitVec.ofInt 64 3).toNat=2^2-1 from by decide,Nat.and_two_pow_sub_one_eq_mod,IntKind.wrap_i64]
 omega
theorem lF (m:Int) (w:World):Calls prog 111 #[iv m] w fun e w'=>e=.returned (.bool (Pl.kD m))∧w'=w:=by
 go_enter func111,ntmps111
 go_wp2_with (go_at_call 31;refine (dW _ _ _ _).mono ?_;rintro e w' ⟨rfl,hw⟩;have hw2:=hw.symm;clear hw;subst hw2)
 go_ret
 exact ⟨rfl,rfl⟩
theorem jk (m:Int) (w:World):Calls prog 112 #[iv m] w fun e w'=>e=.returned (.bool (Pl.fH m))∧w'=w:=by
 cases h1:(m==2)<;>cases h2:(m==5)<;>cases h3:(m==6)
 all_goals
  go_enter func112,ntmps112
  go_wp2
  go_ret
  exact ⟨rB (by simp only [Pl.fH,h1,h2,h3];rfl),rfl⟩
theorem eU (m k e:Int) (w:World):Calls prog 114 #[.agg #[iv m,iv k,iv e]] w fun r w'=>r=.returned (.bool (Pl.iw m k e))∧Kept 0 0 w w':=by
 have K0:=hide (kept_alloc w (.cells #[iv m,iv k,iv e] 77))
 cases h1:(m==0)<;>cases h2:(k==0)<;>cases h3:(e==0)
 all_goals
  go_enter func114,ntmps114
  go_wp2
  go_ret
  exact ⟨rB (by simp only [Pl.iw,h1,h2,h3];rfl),K0.o⟩
theorem lD (m k e:Int) (w:World):Calls prog 113 #[.agg #[iv m,iv k,iv e]] w fun r w'=>r=.returned (.bool (Pl.jv m e))∧Kept 0 0 w w':=by
 have K0:=hide (kept_alloc w (.cells #[iv m,iv k,iv e] 77))
 cases h1:(m==7)<;>cases h2:decide (e≤1023)
 all_goals
  go_enter func113,ntmps113
  go_wp2
  go_ret
  exact ⟨rB (by simp only [Pl.jv,h1,h2];rfl),K0.o⟩
theorem xM (op:Int):op=1∨op=2∨op=3∨op=4∨op=5∨op=6∨op=7∨op=8∨op=9∨op=10∨op=11∨op=12∨op=13∨op=14∨op=15∨op=16∨op=17∨op=18∨op=19∨(¬op=1∧¬op=2∧¬op=3∧¬op=4∧¬op=5∧¬op=6∧¬op=7∧¬op=8∧¬op=9∧¬op=10∧¬op=11∧¬op=12∧¬op=13∧¬op=14∧¬op=15∧¬op=16∧¬op=17∧¬op=18∧¬op=19):=by omega
set_option linter.unusedSimpArgs false
theorem FX (w:World) (op r m k e s:Int) (h2:Pl.within r 0 3=true) (h3:Pl.iT m k e=true) (h4:Pl.within s 0 7=true) (h6:(m==7)=false) :
  Calls prog 71 #[.agg (inA op 1 r m k e s)] w fun r' w'=>r'=.returned (.bool (Pl.dF ⟨op,1,r,m,k,e,s⟩))∧Kept 0 0 w w':=by
 have K0:=hide (kept_alloc w (.cells (inA op 1 r m k e s) 79))
 have B0:=hide (Blk.new w (inA op 1 r m k e s) 79)
 have G:Hid (Pl.dF ⟨op,1,r,m,k,e,s⟩=Pl.ax ⟨op,1,r,m,k,e,s⟩):=hide (by simp only [Pl.dF,Pl.inBase,Pl.lN,h2,h3,h4,h6];rfl)
 have hN:Pl.jv m e=false:=by simp only [Pl.jv,h6];rfl
 go_enter func71,ntmps71
 go_upto_region 5 with (first|(go_at_call 31;have z9:=B2;refine (dW _ _ _ _).mono ?_;rintro e9 w' ⟨rfl,hw⟩;have hw2:=hw.symm;clear hw;subst hw2;rw [show (decide (0≤s)&&decide (s≤7))=Pl.within s 0 7 from rfl,h4])|(go_at_call 109;refine (uD _).mono ?_;rintro e9 w' ⟨rfl,hw⟩;have hw2:=hw.symm;clear hw;subst hw2)|(go_at_call 31;refine (dW _ _ _ _).mono ?_;rintro e9 w' ⟨rfl,hw⟩;have hw2:=hw.symm;clear hw;subst hw2;rw [show (decide (0≤r)&&decide (r≤3))=Pl.within r 0 3 from rfl,h2])|(go_at_call 110;refine (dZ _ m k e).mono ?_;rintro e9 w2 ⟨rfl,k2⟩;rw [h3];have B2:=hide (B0.o.af k2);have K2:=hide (K0.o.trans k2);have c0:=B2.o.cell (i:=0) rfl;have c1:=B2.o.cell (i:=1) rfl;have c2:=B2.o.cell (i:=2) rfl;have c3:=B2.o.cell (i:=3) rfl;have c4:=B2.o.cell (i:=4) rfl;have c5:=B2.o.cell (i:=5) rfl;have c6:=B2.o.cell (i:=6) rfl;clear k2))
 rcases xM op with rfl|rfl|rfl|rfl|rfl|rfl|rfl|rfl|rfl|rfl|rfl|rfl|rfl|rfl|rfl|rfl|rfl|rfl|rfl|hno
 ·have KND:Hid (Pl.ax ⟨1,1,r,m,k,e,s⟩=((s==0)&&(((1:Int)==2) || !(m==1)))):=hide rfl
  cases a1:(s==0)
  all_goals
   go_wp2_with fail
   go_ret
   exact ⟨rB (by rw [G.o,KND.o]<;>first|rfl|(simp only [a1,hN,h6];done)|(simp only [a1,hN,h6];rfl)|simp [a1,hN,h6]),by first|exact K4.o|exact K3.o|exact K2.o⟩
 ·have KND:Hid (Pl.ax ⟨2,1,r,m,k,e,s⟩=((s==0)&&((m==0)||Pl.kD m))):=hide rfl
  cases a1:(s==0)<;>cases b1:(m==0)
  all_goals
   go_wp2_with (first|(go_at_call 111;refine (lF _ _).mono ?_;rintro e9 w' ⟨rfl,hw⟩;have hw2:=hw.symm;clear hw;subst hw2))
   go_ret
   exact ⟨rB (by rw [G.o,KND.o]<;>first|rfl|(simp only [a1,b1,hN,h6];done)|(simp only [a1,b1,hN,h6];rfl)|simp [a1,b1,hN,h6]),by first|exact K4.o|exact K3.o|exact K2.o⟩
 ·have KND:Hid (Pl.ax ⟨3,1,r,m,k,e,s⟩=((s==0)&&(((1:Int)==2) || !(m==1)))):=hide rfl
  cases a1:(s==0)
  all_goals
   go_wp2_with fail
   go_ret
   exact ⟨rB (by rw [G.o,KND.o]<;>first|rfl|(simp only [a1,hN,h6];done)|(simp only [a1,hN,h6];rfl)|simp [a1,hN,h6]),by first|exact K4.o|exact K3.o|exact K2.o⟩
 ·have KND:Hid (Pl.ax ⟨4,1,r,m,k,e,s⟩=((s==0)&&(((1:Int)==2) || !(m==1)))):=hide rfl
  cases a1:(s==0)
  all_goals
   go_wp2_with fail
   go_ret
   exact ⟨rB (by rw [G.o,KND.o]<;>first|rfl|(simp only [a1,hN,h6];done)|(simp only [a1,hN,h6];rfl)|simp [a1,hN,h6]),by first|exact K4.o|exact K3.o|exact K2.o⟩
 ·have KND:Hid (Pl.ax ⟨5,1,r,m,k,e,s⟩=((s==0)&&(((1:Int)==2) || !(m==1)))):=hide rfl
  cases a1:(s==0)
  all_goals
   go_wp2_with fail
   go_ret
   exact ⟨rB (by rw [G.o,KND.o]<;>first|rfl|(simp only [a1,hN,h6];done)|(simp only [a1,hN,h6];rfl)|simp [a1,hN,h6]),by first|exact K4.o|exact K3.o|exact K2.o⟩
 ·have KND:Hid (Pl.ax ⟨6,1,r,m,k,e,s⟩=((s==0)&&(((1:Int)==2) || !(m==1)))):=hide rfl
  cases a1:(s==0)
  all_goals
   go_wp2_with fail
   go_ret
   exact ⟨rB (by rw [G.o,KND.o]<;>first|rfl|(simp only [a1,hN,h6];done)|(simp only [a1,hN,h6];rfl)|simp [a1,hN,h6]),by first|exact K4.o|exact K3.o|exact K2.o⟩
 ·have KND:Hid (Pl.ax ⟨7,1,r,m,k,e,s⟩=((s==0)&&(((1:Int)==2) || !(m==1)))):=hide rfl
  cases a1:(s==0)
  all_goals
   go_wp2_with fail
   go_ret
   exact ⟨rB (by rw [G.o,KND.o]<;>first|rfl|(simp only [a1,hN,h6];done)|(simp only [a1,hN,h6];rfl)|simp [a1,hN,h6]),by first|exact K4.o|exact K3.o|exact K2.o⟩
 ·have KND:Hid (Pl.ax ⟨8,1,r,m,k,e,s⟩=((s==0)&&(((1:Int)==2) || !(m==1)))):=hide rfl
  cases a1:(s==0)
  all_goals
   go_wp2_with fail
   go_ret
   exact ⟨rB (by rw [G.o,KND.o]<;>first|rfl|(simp only [a1,hN,h6];done)|(simp only [a1,hN,h6];rfl)|simp [a1,hN,h6]),by first|exact K4.o|exact K3.o|exact K2.o⟩
 ·have KND:Hid (Pl.ax ⟨9,1,r,m,k,e,s⟩=(((1:Int)==2)&&(s==0))):=hide rfl
  go_wp2_with fail
  go_ret
  exact ⟨rB (by rw [G.o,KND.o]<;>first|rfl|(simp only [hN,h6];done)|(simp only [hN,h6];rfl)|simp [hN,h6]),by first|exact K4.o|exact K3.o|exact K2.o⟩
 ·have KND:Hid (Pl.ax ⟨10,1,r,m,k,e,s⟩=((((1:Int)==2)&&(s==0))&&Pl.fH m)):=hide rfl
  go_wp2_with (first|(go_at_call 112;refine (jk _ _).mono ?_;rintro e9 w' ⟨rfl,hw⟩;have hw2:=hw.symm;clear hw;subst hw2))
  go_ret
  exact ⟨rB (by rw [G.o,KND.o]<;>first|rfl|(simp only [hN,h6];done)|(simp only [hN,h6];rfl)|simp [hN,h6]),by first|exact K4.o|exact K3.o|exact K2.o⟩
 ·have KND:Hid (Pl.ax ⟨11,1,r,m,k,e,s⟩=(((r==0)&&decide (s≤3))&&((m==0)||Pl.kD m))):=hide rfl
  cases a1:(r==0)<;>cases a2:decide (s≤3)<;>cases b1:(m==0)
  all_goals
   go_wp2_with (first|(go_at_call 111;refine (lF _ _).mono ?_;rintro e9 w' ⟨rfl,hw⟩;have hw2:=hw.symm;clear hw;subst hw2))
   go_ret
   exact ⟨rB (by rw [G.o,KND.o]<;>first|rfl|(simp only [a1,a2,b1,hN,h6];done)|(simp only [a1,a2,b1,hN,h6];rfl)|simp [a1,a2,b1,hN,h6]),by first|exact K4.o|exact K3.o|exact K2.o⟩
 ·have KND:Hid (Pl.ax ⟨12,1,r,m,k,e,s⟩=((m==0))):=hide rfl
  go_wp2_with fail
  go_ret
  exact ⟨rB (by rw [G.o,KND.o]<;>first|rfl|(simp only [hN,h6];done)|(simp only [hN,h6];rfl)|simp [hN,h6]),by first|exact K4.o|exact K3.o|exact K2.o⟩
 ·have KND:Hid (Pl.ax ⟨13,1,r,m,k,e,s⟩=((((1:Int)==2)&&decide (r≤1))&&(m==7))):=hide rfl
  go_wp2_with fail
  go_ret
  exact ⟨rB (by rw [G.o,KND.o]<;>first|rfl|(simp only [hN,h6];done)|(simp only [hN,h6];rfl)|simp [hN,h6]),by first|exact K4.o|exact K3.o|exact K2.o⟩
 ·have KND:Hid (Pl.ax ⟨14,1,r,m,k,e,s⟩=(((((1:Int)==2)&&(r==0))&&decide (s≤1))&&Pl.fH m)):=hide rfl
  go_wp2_with (first|(go_at_call 112;refine (jk _ _).mono ?_;rintro e9 w' ⟨rfl,hw⟩;have hw2:=hw.symm;clear hw;subst hw2))
  go_ret
  exact ⟨rB (by rw [G.o,KND.o]<;>first|rfl|(simp only [hN,h6];done)|(simp only [hN,h6];rfl)|simp [hN,h6]),by first|exact K4.o|exact K3.o|exact K2.o⟩
 ·have KND:Hid (Pl.ax ⟨15,1,r,m,k,e,s⟩=(bif s==3 then (((1:Int)==2)&&(r==0))&&Pl.jv m e else ((((1:Int)==2)&&decide (s≤6))&&Pl.iw m k e)&&(decide (3<s)||(r==0)))):=hide rfl
  cases a0:(s==3)
  all_goals
   go_wp2_with (first|(go_at_call 113;refine (lD m k e _).mono ?_;rintro e9 w3 ⟨rfl,k3⟩;rw [hN];have B3:=hide (B2.o.af k3);have K3:=hide (K2.o.trans k3);have d0:=B3.o.cell (i:=0) rfl;have d1:=B3.o.cell (i:=1) rfl;have d2:=B3.o.cell (i:=2) rfl;have d3:=B3.o.cell (i:=3) rfl;have d4:=B3.o.cell (i:=4) rfl;have d5:=B3.o.cell (i:=5) rfl;have d6:=B3.o.cell (i:=6) rfl;clear k3)|(go_at_call 114;have z9:=B3;refine (eU m k e _).mono ?_;rintro e9 w4 ⟨rfl,k4⟩;rw [a3];have B4:=hide (B3.o.af k4);have K4:=hide (K3.o.trans k4);have f0:=B4.o.cell (i:=0) rfl;have f1:=B4.o.cell (i:=1) rfl;have f2:=B4.o.cell (i:=2) rfl;have f3:=B4.o.cell (i:=3) rfl;have f4:=B4.o.cell (i:=4) rfl;have f5:=B4.o.cell (i:=5) rfl;have f6:=B4.o.cell (i:=6) rfl;clear k4)|(go_at_call 114;refine (eU m k e _).mono ?_;rintro e9 w4 ⟨rfl,k4⟩;rw [a3];have B4:=hide (B2.o.af k4);have K4:=hide (K2.o.trans k4);have f0:=B4.o.cell (i:=0) rfl;have f1:=B4.o.cell (i:=1) rfl;have f2:=B4.o.cell (i:=2) rfl;have f3:=B4.o.cell (i:=3) rfl;have f4:=B4.o.cell (i:=4) rfl;have f5:=B4.o.cell (i:=5) rfl;have f6:=B4.o.cell (i:=6) rfl;clear k4))
   go_ret
   exact ⟨rB (by rw [G.o,KND.o]<;>first|rfl|(simp only [a0,hN,h6];done)|(simp only [a0,hN,h6];rfl)|simp [a0,hN,h6]),by first|exact K4.o|exact K3.o|exact K2.o⟩
 ·have KND:Hid (Pl.ax ⟨16,1,r,m,k,e,s⟩=((((1:Int)==2)&&(s==0)) && !(m==1))):=hide rfl
  go_wp2_with fail
  go_ret
  exact ⟨rB (by rw [G.o,KND.o]<;>first|rfl|(simp only [hN,h6];done)|(simp only [hN,h6];rfl)|simp [hN,h6]),by first|exact K4.o|exact K3.o|exact K2.o⟩
 ·have KND:Hid (Pl.ax ⟨17,1,r,m,k,e,s⟩=((((1:Int)==2)&&(s==0)) && !(m==1))):=hide rfl
  go_wp2_with fail
  go_ret
  exact ⟨rB (by rw [G.o,KND.o]<;>first|rfl|(simp only [hN,h6];done)|(simp only [hN,h6];rfl)|simp [hN,h6]),by first|exact K4.o|exact K3.o|exact K2.o⟩
 ·have KND:Hid (Pl.ax ⟨18,1,r,m,k,e,s⟩=(((!((1:Int)==2))&&decide (s≤1))&&(m==0))):=hide rfl
  cases a1:decide (s≤1)
  all_goals
   go_wp2_with fail
   go_ret
   exact ⟨rB (by rw [G.o,KND.o]<;>first|rfl|(simp only [a1,hN,h6];done)|(simp only [a1,hN,h6];rfl)|simp [a1,hN,h6]),by first|exact K4.o|exact K3.o|exact K2.o⟩
 ·have KND:Hid (Pl.ax ⟨19,1,r,m,k,e,s⟩=(((1:Int)==2)&&((((s==0)&&(r==0))&&Pl.jv m e)||((s==1)&&Pl.iw m k e)))):=hide rfl
  go_wp2_with (first|(go_at_call 113;refine (lD m k e _).mono ?_;rintro e9 w3 ⟨rfl,k3⟩;rw [hN];have B3:=hide (B2.o.af k3);have K3:=hide (K2.o.trans k3);have d0:=B3.o.cell (i:=0) rfl;have d1:=B3.o.cell (i:=1) rfl;have d2:=B3.o.cell (i:=2) rfl;have d3:=B3.o.cell (i:=3) rfl;have d4:=B3.o.cell (i:=4) rfl;have d5:=B3.o.cell (i:=5) rfl;have d6:=B3.o.cell (i:=6) rfl;clear k3)|(go_at_call 114;have z9:=B3;refine (eU m k e _).mono ?_;rintro e9 w4 ⟨rfl,k4⟩;have B4:=hide (B3.o.af k4);have K4:=hide (K3.o.trans k4);have f0:=B4.o.cell (i:=0) rfl;have f1:=B4.o.cell (i:=1) rfl;have f2:=B4.o.cell (i:=2) rfl;have f3:=B4.o.cell (i:=3) rfl;have f4:=B4.o.cell (i:=4) rfl;have f5:=B4.o.cell (i:=5) rfl;have f6:=B4.o.cell (i:=6) rfl;clear k4)|(go_at_call 114;refine (eU m k e _).mono ?_;rintro e9 w4 ⟨rfl,k4⟩;have B4:=hide (B2.o.af k4);have K4:=hide (K2.o.trans k4);have f0:=B4.o.cell (i:=0) rfl;have f1:=B4.o.cell (i:=1) rfl;have f2:=B4.o.cell (i:=2) rfl;have f3:=B4.o.cell (i:=3) rfl;have f4:=B4.o.cell (i:=4) rfl;have f5:=B4.o.cell (i:=5) rfl;have f6:=B4.o.cell (i:=6) rfl;clear k4))
  go_ret
  exact ⟨rB (by rw [G.o,KND.o]<;>first|rfl|(simp only [hN,h6];done)|(simp only [hN,h6];rfl)|simp [hN,h6]),by first|exact K4.o|exact K3.o|exact K2.o⟩
 ·obtain ⟨q1,q2,q3,q4,q5,q6,q7,q8,q9,q10,q11,q12,q13,q14,q15,q16,q17,q18,q19⟩:=hno
  have KND:Hid (Pl.ax ⟨op,1,r,m,k,e,s⟩=false):=hide (by simp [Pl.ax,q1,q2,q3,q4,q5,q6,q7,q8,q9,q10,q11,q12,q13,q14,q15,q16,q17,q18,q19])
  go_wp2_with fail
  go_ret
  exact ⟨rB (by rw [G.o,KND.o]),K2.o⟩
set_option linter.unusedSimpArgs false
theorem FW (w:World) (op r m k e s:Int) (h2:Pl.within r 0 3=true) (h3:Pl.iT m k e=true) (h4:Pl.within s 0 7=true) (h6:(m==7)=false) :
  Calls prog 71 #[.agg (inA op 2 r m k e s)] w fun r' w'=>r'=.returned (.bool (Pl.dF ⟨op,2,r,m,k,e,s⟩))∧Kept 0 0 w w':=by
 have K0:=hide (kept_alloc w (.cells (inA op 2 r m k e s) 79))
 have B0:=hide (Blk.new w (inA op 2 r m k e s) 79)
 have G:Hid (Pl.dF ⟨op,2,r,m,k,e,s⟩=Pl.ax ⟨op,2,r,m,k,e,s⟩):=hide (by simp only [Pl.dF,Pl.inBase,Pl.lN,h2,h3,h4,h6];rfl)
 have hN:Pl.jv m e=false:=by simp only [Pl.jv,h6];rfl
 go_enter func71,ntmps71
 go_upto_region 5 with (first|(go_at_call 31;have z9:=B2;refine (dW _ _ _ _).mono ?_;rintro e9 w' ⟨rfl,hw⟩;have hw2:=hw.symm;clear hw;subst hw2;rw [show (decide (0≤s)&&decide (s≤7))=Pl.within s 0 7 from rfl,h4])|(go_at_call 109;refine (uC _).mono ?_;rintro e9 w' ⟨rfl,hw⟩;have hw2:=hw.symm;clear hw;subst hw2)|(go_at_call 31;refine (dW _ _ _ _).mono ?_;rintro e9 w' ⟨rfl,hw⟩;have hw2:=hw.symm;clear hw;subst hw2;rw [show (decide (0≤r)&&decide (r≤3))=Pl.within r 0 3 from rfl,h2])|(go_at_call 110;refine (dZ _ m k e).mono ?_;rintro e9 w2 ⟨rfl,k2⟩;rw [h3];have B2:=hide (B0.o.af k2);have K2:=hide (K0.o.trans k2);have c0:=B2.o.cell (i:=0) rfl;have c1:=B2.o.cell (i:=1) rfl;have c2:=B2.o.cell (i:=2) rfl;have c3:=B2.o.cell (i:=3) rfl;have c4:=B2.o.cell (i:=4) rfl;have c5:=B2.o.cell (i:=5) rfl;have c6:=B2.o.cell (i:=6) rfl;clear k2))
 rcases xM op with rfl|rfl|rfl|rfl|rfl|rfl|rfl|rfl|rfl|rfl|rfl|rfl|rfl|rfl|rfl|rfl|rfl|rfl|rfl|hno
 ·have KND:Hid (Pl.ax ⟨1,2,r,m,k,e,s⟩=((s==0)&&(((2:Int)==2) || !(m==1)))):=hide rfl
  cases a1:(s==0)
  all_goals
   go_wp2_with fail
   go_ret
   exact ⟨rB (by rw [G.o,KND.o]<;>first|rfl|(simp only [a1,hN,h6];done)|(simp only [a1,hN,h6];rfl)|simp [a1,hN,h6]),by first|exact K4.o|exact K3.o|exact K2.o⟩
 ·have KND:Hid (Pl.ax ⟨2,2,r,m,k,e,s⟩=((s==0)&&((m==0)||Pl.kD m))):=hide rfl
  cases a1:(s==0)<;>cases b1:(m==0)
  all_goals
   go_wp2_with (first|(go_at_call 111;refine (lF _ _).mono ?_;rintro e9 w' ⟨rfl,hw⟩;have hw2:=hw.symm;clear hw;subst hw2))
   go_ret
   exact ⟨rB (by rw [G.o,KND.o]<;>first|rfl|(simp only [a1,b1,hN,h6];done)|(simp only [a1,b1,hN,h6];rfl)|simp [a1,b1,hN,h6]),by first|exact K4.o|exact K3.o|exact K2.o⟩
 ·have KND:Hid (Pl.ax ⟨3,2,r,m,k,e,s⟩=((s==0)&&(((2:Int)==2) || !(m==1)))):=hide rfl
  cases a1:(s==0)
  all_goals
   go_wp2_with fail
   go_ret
   exact ⟨rB (by rw [G.o,KND.o]<;>first|rfl|(simp only [a1,hN,h6];done)|(simp only [a1,hN,h6];rfl)|simp [a1,hN,h6]),by first|exact K4.o|exact K3.o|exact K2.o⟩
 ·have KND:Hid (Pl.ax ⟨4,2,r,m,k,e,s⟩=((s==0)&&(((2:Int)==2) || !(m==1)))):=hide rfl
  cases a1:(s==0)
  all_goals
   go_wp2_with fail
   go_ret
   exact ⟨rB (by rw [G.o,KND.o]<;>first|rfl|(simp only [a1,hN,h6];done)|(simp only [a1,hN,h6];rfl)|simp [a1,hN,h6]),by first|exact K4.o|exact K3.o|exact K2.o⟩
 ·have KND:Hid (Pl.ax ⟨5,2,r,m,k,e,s⟩=((s==0)&&(((2:Int)==2) || !(m==1)))):=hide rfl
  cases a1:(s==0)
  all_goals
   go_wp2_with fail
   go_ret
   exact ⟨rB (by rw [G.o,KND.o]<;>first|rfl|(simp only [a1,hN,h6];done)|(simp only [a1,hN,h6];rfl)|simp [a1,hN,h6]),by first|exact K4.o|exact K3.o|exact K2.o⟩
 ·have KND:Hid (Pl.ax ⟨6,2,r,m,k,e,s⟩=((s==0)&&(((2:Int)==2) || !(m==1)))):=hide rfl
  cases a1:(s==0)
  all_goals
   go_wp2_with fail
   go_ret
   exact ⟨rB (by rw [G.o,KND.o]<;>first|rfl|(simp only [a1,hN,h6];done)|(simp only [a1,hN,h6];rfl)|simp [a1,hN,h6]),by first|exact K4.o|exact K3.o|exact K2.o⟩
 ·have KND:Hid (Pl.ax ⟨7,2,r,m,k,e,s⟩=((s==0)&&(((2:Int)==2) || !(m==1)))):=hide rfl
  cases a1:(s==0)
  all_goals
   go_wp2_with fail
   go_ret
   exact ⟨rB (by rw [G.o,KND.o]<;>first|rfl|(simp only [a1,hN,h6];done)|(simp only [a1,hN,h6];rfl)|simp [a1,hN,h6]),by first|exact K4.o|exact K3.o|exact K2.o⟩
 ·have KND:Hid (Pl.ax ⟨8,2,r,m,k,e,s⟩=((s==0)&&(((2:Int)==2) || !(m==1)))):=hide rfl
  cases a1:(s==0)
  all_goals
   go_wp2_with fail
   go_ret
   exact ⟨rB (by rw [G.o,KND.o]<;>first|rfl|(simp only [a1,hN,h6];done)|(simp only [a1,hN,h6];rfl)|simp [a1,hN,h6]),by first|exact K4.o|exact K3.o|exact K2.o⟩
 ·have KND:Hid (Pl.ax ⟨9,2,r,m,k,e,s⟩=(((2:Int)==2)&&(s==0))):=hide rfl
  go_wp2_with fail
  go_ret
  exact ⟨rB (by rw [G.o,KND.o]<;>first|rfl|(simp only [hN,h6];done)|(simp only [hN,h6];rfl)|simp [hN,h6]),by first|exact K4.o|exact K3.o|exact K2.o⟩
 ·have KND:Hid (Pl.ax ⟨10,2,r,m,k,e,s⟩=((((2:Int)==2)&&(s==0))&&Pl.fH m)):=hide rfl
  cases a1:(s==0)
  all_goals
   go_wp2_with (first|(go_at_call 112;refine (jk _ _).mono ?_;rintro e9 w' ⟨rfl,hw⟩;have hw2:=hw.symm;clear hw;subst hw2))
   go_ret
   exact ⟨rB (by rw [G.o,KND.o]<;>first|rfl|(simp only [a1,hN,h6];done)|(simp only [a1,hN,h6];rfl)|simp [a1,hN,h6]),by first|exact K4.o|exact K3.o|exact K2.o⟩
 ·have KND:Hid (Pl.ax ⟨11,2,r,m,k,e,s⟩=(((r==0)&&decide (s≤3))&&((m==0)||Pl.kD m))):=hide rfl
  cases a1:(r==0)<;>cases a2:decide (s≤3)<;>cases b1:(m==0)
  all_goals
   go_wp2_with (first|(go_at_call 111;refine (lF _ _).mono ?_;rintro e9 w' ⟨rfl,hw⟩;have hw2:=hw.symm;clear hw;subst hw2))
   go_ret
   exact ⟨rB (by rw [G.o,KND.o]<;>first|rfl|(simp only [a1,a2,b1,hN,h6];done)|(simp only [a1,a2,b1,hN,h6];rfl)|simp [a1,a2,b1,hN,h6]),by first|exact K4.o|exact K3.o|exact K2.o⟩
 ·have KND:Hid (Pl.ax ⟨12,2,r,m,k,e,s⟩=((m==0))):=hide rfl
  go_wp2_with fail
  go_ret
  exact ⟨rB (by rw [G.o,KND.o]<;>first|rfl|(simp only [hN,h6];done)|(simp only [hN,h6];rfl)|simp [hN,h6]),by first|exact K4.o|exact K3.o|exact K2.o⟩
 ·have KND:Hid (Pl.ax ⟨13,2,r,m,k,e,s⟩=((((2:Int)==2)&&decide (r≤1))&&(m==7))):=hide rfl
  cases a1:decide (r≤1)
  all_goals
   go_wp2_with fail
   go_ret
   exact ⟨rB (by rw [G.o,KND.o]<;>first|rfl|(simp only [a1,hN,h6];done)|(simp only [a1,hN,h6];rfl)|simp [a1,hN,h6]),by first|exact K4.o|exact K3.o|exact K2.o⟩
 ·have KND:Hid (Pl.ax ⟨14,2,r,m,k,e,s⟩=(((((2:Int)==2)&&(r==0))&&decide (s≤1))&&Pl.fH m)):=hide rfl
  cases a1:(r==0)<;>cases a2:decide (s≤1)
  all_goals
   go_wp2_with (first|(go_at_call 112;refine (jk _ _).mono ?_;rintro e9 w' ⟨rfl,hw⟩;have hw2:=hw.symm;clear hw;subst hw2))
   go_ret
   exact ⟨rB (by rw [G.o,KND.o]<;>first|rfl|(simp only [a1,a2,hN,h6];done)|(simp only [a1,a2,hN,h6];rfl)|simp [a1,a2,hN,h6]),by first|exact K4.o|exact K3.o|exact K2.o⟩
 ·have KND:Hid (Pl.ax ⟨15,2,r,m,k,e,s⟩=(bif s==3 then (((2:Int)==2)&&(r==0))&&Pl.jv m e else ((((2:Int)==2)&&decide (s≤6))&&Pl.iw m k e)&&(decide (3<s)||(r==0)))):=hide rfl
  cases a0:(s==3)<;>cases a1:(r==0)<;>cases a2:decide (s≤6)<;>cases a3:Pl.iw m k e<;>cases a4:decide (3<s)
  all_goals
   go_wp2_with (first|(go_at_call 113;refine (lD m k e _).mono ?_;rintro e9 w3 ⟨rfl,k3⟩;rw [hN];have B3:=hide (B2.o.af k3);have K3:=hide (K2.o.trans k3);have d0:=B3.o.cell (i:=0) rfl;have d1:=B3.o.cell (i:=1) rfl;have d2:=B3.o.cell (i:=2) rfl;have d3:=B3.o.cell (i:=3) rfl;have d4:=B3.o.cell (i:=4) rfl;have d5:=B3.o.cell (i:=5) rfl;have d6:=B3.o.cell (i:=6) rfl;clear k3)|(go_at_call 114;have z9:=B3;refine (eU m k e _).mono ?_;rintro e9 w4 ⟨rfl,k4⟩;rw [a3];have B4:=hide (B3.o.af k4);have K4:=hide (K3.o.trans k4);have f0:=B4.o.cell (i:=0) rfl;have f1:=B4.o.cell (i:=1) rfl;have f2:=B4.o.cell (i:=2) rfl;have f3:=B4.o.cell (i:=3) rfl;have f4:=B4.o.cell (i:=4) rfl;have f5:=B4.o.cell (i:=5) rfl;have f6:=B4.o.cell (i:=6) rfl;clear k4)|(go_at_call 114;refine (eU m k e _).mono ?_;rintro e9 w4 ⟨rfl,k4⟩;rw [a3];have B4:=hide (B2.o.af k4);have K4:=hide (K2.o.trans k4);have f0:=B4.o.cell (i:=0) rfl;have f1:=B4.o.cell (i:=1) rfl;have f2:=B4.o.cell (i:=2) rfl;have f3:=B4.o.cell (i:=3) rfl;have f4:=B4.o.cell (i:=4) rfl;have f5:=B4.o.cell (i:=5) rfl;have f6:=B4.o.cell (i:=6) rfl;clear k4))
   go_ret
   exact ⟨rB (by rw [G.o,KND.o]<;>first|rfl|(simp only [a0,a1,a2,a3,a4,hN,h6];done)|(simp only [a0,a1,a2,a3,a4,hN,h6];rfl)|simp [a0,a1,a2,a3,a4,hN,h6]),by first|exact K4.o|exact K3.o|exact K2.o⟩
 ·have KND:Hid (Pl.ax ⟨16,2,r,m,k,e,s⟩=((((2:Int)==2)&&(s==0)) && !(m==1))):=hide rfl
  cases a1:(s==0)
  all_goals
   go_wp2_with fail
   go_ret
   exact ⟨rB (by rw [G.o,KND.o]<;>first|rfl|(simp only [a1,hN,h6];done)|(simp only [a1,hN,h6];rfl)|simp [a1,hN,h6]),by first|exact K4.o|exact K3.o|exact K2.o⟩
 ·have KND:Hid (Pl.ax ⟨17,2,r,m,k,e,s⟩=((((2:Int)==2)&&(s==0)) && !(m==1))):=hide rfl
  cases a1:(s==0)
  all_goals
   go_wp2_with fail
   go_ret
   exact ⟨rB (by rw [G.o,KND.o]<;>first|rfl|(simp only [a1,hN,h6];done)|(simp only [a1,hN,h6];rfl)|simp [a1,hN,h6]),by first|exact K4.o|exact K3.o|exact K2.o⟩
 ·have KND:Hid (Pl.ax ⟨18,2,r,m,k,e,s⟩=(((!((2:Int)==2))&&decide (s≤1))&&(m==0))):=hide rfl
  go_wp2_with fail
  go_ret
  exact ⟨rB (by rw [G.o,KND.o]<;>first|rfl|(simp only [hN,h6];done)|(simp only [hN,h6];rfl)|simp [hN,h6]),by first|exact K4.o|exact K3.o|exact K2.o⟩
 ·have KND:Hid (Pl.ax ⟨19,2,r,m,k,e,s⟩=(((2:Int)==2)&&((((s==0)&&(r==0))&&Pl.jv m e)||((s==1)&&Pl.iw m k e)))):=hide rfl
  cases a1:(s==0)<;>cases a2:(r==0)<;>cases a4:(s==1)
  all_goals
   go_wp2_with (first|(go_at_call 113;refine (lD m k e _).mono ?_;rintro e9 w3 ⟨rfl,k3⟩;rw [hN];have B3:=hide (B2.o.af k3);have K3:=hide (K2.o.trans k3);have d0:=B3.o.cell (i:=0) rfl;have d1:=B3.o.cell (i:=1) rfl;have d2:=B3.o.cell (i:=2) rfl;have d3:=B3.o.cell (i:=3) rfl;have d4:=B3.o.cell (i:=4) rfl;have d5:=B3.o.cell (i:=5) rfl;have d6:=B3.o.cell (i:=6) rfl;clear k3)|(go_at_call 114;have z9:=B3;refine (eU m k e _).mono ?_;rintro e9 w4 ⟨rfl,k4⟩;have B4:=hide (B3.o.af k4);have K4:=hide (K3.o.trans k4);have f0:=B4.o.cell (i:=0) rfl;have f1:=B4.o.cell (i:=1) rfl;have f2:=B4.o.cell (i:=2) rfl;have f3:=B4.o.cell (i:=3) rfl;have f4:=B4.o.cell (i:=4) rfl;have f5:=B4.o.cell (i:=5) rfl;have f6:=B4.o.cell (i:=6) rfl;clear k4)|(go_at_call 114;refine (eU m k e _).mono ?_;rintro e9 w4 ⟨rfl,k4⟩;have B4:=hide (B2.o.af k4);have K4:=hide (K2.o.trans k4);have f0:=B4.o.cell (i:=0) rfl;have f1:=B4.o.cell (i:=1) rfl;have f2:=B4.o.cell (i:=2) rfl;have f3:=B4.o.cell (i:=3) rfl;have f4:=B4.o.cell (i:=4) rfl;have f5:=B4.o.cell (i:=5) rfl;have f6:=B4.o.cell (i:=6) rfl;clear k4))
   go_ret
   exact ⟨rB (by rw [G.o,KND.o]<;>first|rfl|(simp only [a1,a2,a4,hN,h6];done)|(simp only [a1,a2,a4,hN,h6];rfl)|simp [a1,a2,a4,hN,h6]),by first|exact K4.o|exact K3.o|exact K2.o⟩
 ·obtain ⟨q1,q2,q3,q4,q5,q6,q7,q8,q9,q10,q11,q12,q13,q14,q15,q16,q17,q18,q19⟩:=hno
  have KND:Hid (Pl.ax ⟨op,2,r,m,k,e,s⟩=false):=hide (by simp [Pl.ax,q1,q2,q3,q4,q5,q6,q7,q8,q9,q10,q11,q12,q13,q14,q15,q16,q17,q18,q19])
  go_wp2_with fail
  go_ret
  exact ⟨rB (by rw [G.o,KND.o]),K2.o⟩
set_option linter.unusedSimpArgs false
theorem FV (w:World) (op r k e s:Int) (h2:Pl.within r 0 3=true) (h3:Pl.iT 7 k e=true) (h4:Pl.within s 0 7=true) (h8:decide (255<e)=false) :
  Calls prog 71 #[.agg (inA op 1 r 7 k e s)] w fun r' w'=>r'=.returned (.bool (Pl.dF ⟨op,1,r,7,k,e,s⟩))∧Kept 0 0 w w':=by
 have K0:=hide (kept_alloc w (.cells (inA op 1 r 7 k e s) 79))
 have B0:=hide (Blk.new w (inA op 1 r 7 k e s) 79)
 have G:Hid (Pl.dF ⟨op,1,r,7,k,e,s⟩=Pl.ax ⟨op,1,r,7,k,e,s⟩):=hide (by simp only [Pl.dF,Pl.inBase,Pl.lN,h2,h3,h4];simp at h8;simp;omega)
 have hZ:Pl.iw 7 k e=false:=rfl
 go_enter func71,ntmps71
 go_upto_region 5 with (first|(go_at_call 31;have z9:=B2;refine (dW _ _ _ _).mono ?_;rintro e9 w' ⟨rfl,hw⟩;have hw2:=hw.symm;clear hw;subst hw2;rw [show (decide (0≤s)&&decide (s≤7))=Pl.within s 0 7 from rfl,h4])|(go_at_call 109;refine (uD _).mono ?_;rintro e9 w' ⟨rfl,hw⟩;have hw2:=hw.symm;clear hw;subst hw2)|(go_at_call 31;refine (dW _ _ _ _).mono ?_;rintro e9 w' ⟨rfl,hw⟩;have hw2:=hw.symm;clear hw;subst hw2;rw [show (decide (0≤r)&&decide (r≤3))=Pl.within r 0 3 from rfl,h2])|(go_at_call 110;refine (dZ _ 7 k e).mono ?_;rintro e9 w2 ⟨rfl,k2⟩;rw [h3];have B2:=hide (B0.o.af k2);have K2:=hide (K0.o.trans k2);have c0:=B2.o.cell (i:=0) rfl;have c1:=B2.o.cell (i:=1) rfl;have c2:=B2.o.cell (i:=2) rfl;have c3:=B2.o.cell (i:=3) rfl;have c4:=B2.o.cell (i:=4) rfl;have c5:=B2.o.cell (i:=5) rfl;have c6:=B2.o.cell (i:=6) rfl;clear k2))
 rcases xM op with rfl|rfl|rfl|rfl|rfl|rfl|rfl|rfl|rfl|rfl|rfl|rfl|rfl|rfl|rfl|rfl|rfl|rfl|rfl|hno
 ·have KND:Hid (Pl.ax ⟨1,1,r,7,k,e,s⟩=((s==0)&&(((1:Int)==2) || !((7:Int)==1)))):=hide rfl
  cases a1:(s==0)
  all_goals
   go_wp2_with fail
   go_ret
   exact ⟨rB (by rw [G.o,KND.o]<;>first|rfl|(simp only [a1,hZ];done)|(simp only [a1,hZ];rfl)|simp [a1,hZ]),by first|exact K4.o|exact K3.o|exact K2.o⟩
 ·have KND:Hid (Pl.ax ⟨2,1,r,7,k,e,s⟩=((s==0)&&(((7:Int)==0)||Pl.kD (7:Int)))):=hide rfl
  cases a1:(s==0)
  all_goals
   go_wp2_with (first|(go_at_call 111;refine (lF _ _).mono ?_;rintro e9 w' ⟨rfl,hw⟩;have hw2:=hw.symm;clear hw;subst hw2))
   go_ret
   exact ⟨rB (by rw [G.o,KND.o]<;>first|rfl|(simp only [a1,hZ];done)|(simp only [a1,hZ];rfl)|simp [a1,hZ]),by first|exact K4.o|exact K3.o|exact K2.o⟩
 ·have KND:Hid (Pl.ax ⟨3,1,r,7,k,e,s⟩=((s==0)&&(((1:Int)==2) || !((7:Int)==1)))):=hide rfl
  cases a1:(s==0)
  all_goals
   go_wp2_with fail
   go_ret
   exact ⟨rB (by rw [G.o,KND.o]<;>first|rfl|(simp only [a1,hZ];done)|(simp only [a1,hZ];rfl)|simp [a1,hZ]),by first|exact K4.o|exact K3.o|exact K2.o⟩
 ·have KND:Hid (Pl.ax ⟨4,1,r,7,k,e,s⟩=((s==0)&&(((1:Int)==2) || !((7:Int)==1)))):=hide rfl
  cases a1:(s==0)
  all_goals
   go_wp2_with fail
   go_ret
   exact ⟨rB (by rw [G.o,KND.o]<;>first|rfl|(simp only [a1,hZ];done)|(simp only [a1,hZ];rfl)|simp [a1,hZ]),by first|exact K4.o|exact K3.o|exact K2.o⟩
 ·have KND:Hid (Pl.ax ⟨5,1,r,7,k,e,s⟩=((s==0)&&(((1:Int)==2) || !((7:Int)==1)))):=hide rfl
  cases a1:(s==0)
  all_goals
   go_wp2_with fail
   go_ret
   exact ⟨rB (by rw [G.o,KND.o]<;>first|rfl|(simp only [a1,hZ];done)|(simp only [a1,hZ];rfl)|simp [a1,hZ]),by first|exact K4.o|exact K3.o|exact K2.o⟩
 ·have KND:Hid (Pl.ax ⟨6,1,r,7,k,e,s⟩=((s==0)&&(((1:Int)==2) || !((7:Int)==1)))):=hide rfl
  cases a1:(s==0)
  all_goals
   go_wp2_with fail
   go_ret
   exact ⟨rB (by rw [G.o,KND.o]<;>first|rfl|(simp only [a1,hZ];done)|(simp only [a1,hZ];rfl)|simp [a1,hZ]),by first|exact K4.o|exact K3.o|exact K2.o⟩
 ·have KND:Hid (Pl.ax ⟨7,1,r,7,k,e,s⟩=((s==0)&&(((1:Int)==2) || !((7:Int)==1)))):=hide rfl
  cases a1:(s==0)
  all_goals
   go_wp2_with fail
   go_ret
   exact ⟨rB (by rw [G.o,KND.o]<;>first|rfl|(simp only [a1,hZ];done)|(simp only [a1,hZ];rfl)|simp [a1,hZ]),by first|exact K4.o|exact K3.o|exact K2.o⟩
 ·have KND:Hid (Pl.ax ⟨8,1,r,7,k,e,s⟩=((s==0)&&(((1:Int)==2) || !((7:Int)==1)))):=hide rfl
  cases a1:(s==0)
  all_goals
   go_wp2_with fail
   go_ret
   exact ⟨rB (by rw [G.o,KND.o]<;>first|rfl|(simp only [a1,hZ];done)|(simp only [a1,hZ];rfl)|simp [a1,hZ]),by first|exact K4.o|exact K3.o|exact K2.o⟩
 ·have KND:Hid (Pl.ax ⟨9,1,r,7,k,e,s⟩=(((1:Int)==2)&&(s==0))):=hide rfl
  go_wp2_with fail
  go_ret
  exact ⟨rB (by rw [G.o,KND.o]<;>first|rfl|(simp only [hZ];done)|(simp only [hZ];rfl)|simp [hZ]),by first|exact K4.o|exact K3.o|exact K2.o⟩
 ·have KND:Hid (Pl.ax ⟨10,1,r,7,k,e,s⟩=((((1:Int)==2)&&(s==0))&&Pl.fH (7:Int))):=hide rfl
  go_wp2_with (first|(go_at_call 112;refine (jk _ _).mono ?_;rintro e9 w' ⟨rfl,hw⟩;have hw2:=hw.symm;clear hw;subst hw2))
  go_ret
  exact ⟨rB (by rw [G.o,KND.o]<;>first|rfl|(simp only [hZ];done)|(simp only [hZ];rfl)|simp [hZ]),by first|exact K4.o|exact K3.o|exact K2.o⟩
 ·have KND:Hid (Pl.ax ⟨11,1,r,7,k,e,s⟩=(((r==0)&&decide (s≤3))&&(((7:Int)==0)||Pl.kD (7:Int)))):=hide rfl
  cases a1:(r==0)<;>cases a2:decide (s≤3)
  all_goals
   go_wp2_with (first|(go_at_call 111;refine (lF _ _).mono ?_;rintro e9 w' ⟨rfl,hw⟩;have hw2:=hw.symm;clear hw;subst hw2))
   go_ret
   exact ⟨rB (by rw [G.o,KND.o]<;>first|rfl|(simp only [a1,a2,hZ];done)|(simp only [a1,a2,hZ];rfl)|simp [a1,a2,hZ]),by first|exact K4.o|exact K3.o|exact K2.o⟩
 ·have KND:Hid (Pl.ax ⟨12,1,r,7,k,e,s⟩=(((7:Int)==0))):=hide rfl
  go_wp2_with fail
  go_ret
  exact ⟨rB (by rw [G.o,KND.o]<;>first|rfl|(simp only [hZ];done)|(simp only [hZ];rfl)|simp [hZ]),by first|exact K4.o|exact K3.o|exact K2.o⟩
 ·have KND:Hid (Pl.ax ⟨13,1,r,7,k,e,s⟩=((((1:Int)==2)&&decide (r≤1))&&((7:Int)==7))):=hide rfl
  go_wp2_with fail
  go_ret
  exact ⟨rB (by rw [G.o,KND.o]<;>first|rfl|(simp only [hZ];done)|(simp only [hZ];rfl)|simp [hZ]),by first|exact K4.o|exact K3.o|exact K2.o⟩
 ·have KND:Hid (Pl.ax ⟨14,1,r,7,k,e,s⟩=(((((1:Int)==2)&&(r==0))&&decide (s≤1))&&Pl.fH (7:Int))):=hide rfl
  go_wp2_with (first|(go_at_call 112;refine (jk _ _).mono ?_;rintro e9 w' ⟨rfl,hw⟩;have hw2:=hw.symm;clear hw;subst hw2))
  go_ret
  exact ⟨rB (by rw [G.o,KND.o]<;>first|rfl|(simp only [hZ];done)|(simp only [hZ];rfl)|simp [hZ]),by first|exact K4.o|exact K3.o|exact K2.o⟩
 ·have KND:Hid (Pl.ax ⟨15,1,r,7,k,e,s⟩=(bif s==3 then (((1:Int)==2)&&(r==0))&&Pl.jv (7:Int) e else ((((1:Int)==2)&&decide (s≤6))&&Pl.iw (7:Int) k e)&&(decide (3<s)||(r==0)))):=hide rfl
  cases a0:(s==3)
  all_goals
   go_wp2_with (first|(go_at_call 113;refine (lD 7 k e _).mono ?_;rintro e9 w3 ⟨rfl,k3⟩;have B3:=hide (B2.o.af k3);have K3:=hide (K2.o.trans k3);have d0:=B3.o.cell (i:=0) rfl;have d1:=B3.o.cell (i:=1) rfl;have d2:=B3.o.cell (i:=2) rfl;have d3:=B3.o.cell (i:=3) rfl;have d4:=B3.o.cell (i:=4) rfl;have d5:=B3.o.cell (i:=5) rfl;have d6:=B3.o.cell (i:=6) rfl;clear k3)|(go_at_call 114;have z9:=B3;refine (eU 7 k e _).mono ?_;rintro e9 w4 ⟨rfl,k4⟩;rw [hZ];have B4:=hide (B3.o.af k4);have K4:=hide (K3.o.trans k4);have f0:=B4.o.cell (i:=0) rfl;have f1:=B4.o.cell (i:=1) rfl;have f2:=B4.o.cell (i:=2) rfl;have f3:=B4.o.cell (i:=3) rfl;have f4:=B4.o.cell (i:=4) rfl;have f5:=B4.o.cell (i:=5) rfl;have f6:=B4.o.cell (i:=6) rfl;clear k4)|(go_at_call 114;refine (eU 7 k e _).mono ?_;rintro e9 w4 ⟨rfl,k4⟩;rw [hZ];have B4:=hide (B2.o.af k4);have K4:=hide (K2.o.trans k4);have f0:=B4.o.cell (i:=0) rfl;have f1:=B4.o.cell (i:=1) rfl;have f2:=B4.o.cell (i:=2) rfl;have f3:=B4.o.cell (i:=3) rfl;have f4:=B4.o.cell (i:=4) rfl;have f5:=B4.o.cell (i:=5) rfl;have f6:=B4.o.cell (i:=6) rfl;clear k4))
   go_ret
   exact ⟨rB (by rw [G.o,KND.o]<;>first|rfl|(simp only [a0,hZ];done)|(simp only [a0,hZ];rfl)|simp [a0,hZ]),by first|exact K4.o|exact K3.o|exact K2.o⟩
 ·have KND:Hid (Pl.ax ⟨16,1,r,7,k,e,s⟩=((((1:Int)==2)&&(s==0)) && !((7:Int)==1))):=hide rfl
  go_wp2_with fail
  go_ret
  exact ⟨rB (by rw [G.o,KND.o]<;>first|rfl|(simp only [hZ];done)|(simp only [hZ];rfl)|simp [hZ]),by first|exact K4.o|exact K3.o|exact K2.o⟩
 ·have KND:Hid (Pl.ax ⟨17,1,r,7,k,e,s⟩=((((1:Int)==2)&&(s==0)) && !((7:Int)==1))):=hide rfl
  go_wp2_with fail
  go_ret
  exact ⟨rB (by rw [G.o,KND.o]<;>first|rfl|(simp only [hZ];done)|(simp only [hZ];rfl)|simp [hZ]),by first|exact K4.o|exact K3.o|exact K2.o⟩
 ·have KND:Hid (Pl.ax ⟨18,1,r,7,k,e,s⟩=(((!((1:Int)==2))&&decide (s≤1))&&((7:Int)==0))):=hide rfl
  cases a1:decide (s≤1)
  all_goals
   go_wp2_with fail
   go_ret
   exact ⟨rB (by rw [G.o,KND.o]<;>first|rfl|(simp only [a1,hZ];done)|(simp only [a1,hZ];rfl)|simp [a1,hZ]),by first|exact K4.o|exact K3.o|exact K2.o⟩
 ·have KND:Hid (Pl.ax ⟨19,1,r,7,k,e,s⟩=(((1:Int)==2)&&((((s==0)&&(r==0))&&Pl.jv (7:Int) e)||((s==1)&&Pl.iw (7:Int) k e)))):=hide rfl
  go_wp2_with (first|(go_at_call 113;refine (lD 7 k e _).mono ?_;rintro e9 w3 ⟨rfl,k3⟩;rw [a3];have B3:=hide (B2.o.af k3);have K3:=hide (K2.o.trans k3);have d0:=B3.o.cell (i:=0) rfl;have d1:=B3.o.cell (i:=1) rfl;have d2:=B3.o.cell (i:=2) rfl;have d3:=B3.o.cell (i:=3) rfl;have d4:=B3.o.cell (i:=4) rfl;have d5:=B3.o.cell (i:=5) rfl;have d6:=B3.o.cell (i:=6) rfl;clear k3)|(go_at_call 114;have z9:=B3;refine (eU 7 k e _).mono ?_;rintro e9 w4 ⟨rfl,k4⟩;rw [hZ];have B4:=hide (B3.o.af k4);have K4:=hide (K3.o.trans k4);have f0:=B4.o.cell (i:=0) rfl;have f1:=B4.o.cell (i:=1) rfl;have f2:=B4.o.cell (i:=2) rfl;have f3:=B4.o.cell (i:=3) rfl;have f4:=B4.o.cell (i:=4) rfl;have f5:=B4.o.cell (i:=5) rfl;have f6:=B4.o.cell (i:=6) rfl;clear k4)|(go_at_call 114;refine (eU 7 k e _).mono ?_;rintro e9 w4 ⟨rfl,k4⟩;rw [hZ];have B4:=hide (B2.o.af k4);have K4:=hide (K2.o.trans k4);have f0:=B4.o.cell (i:=0) rfl;have f1:=B4.o.cell (i:=1) rfl;have f2:=B4.o.cell (i:=2) rfl;have f3:=B4.o.cell (i:=3) rfl;have f4:=B4.o.cell (i:=4) rfl;have f5:=B4.o.cell (i:=5) rfl;have f6:=B4.o.cell (i:=6) rfl;clear k4))
  go_ret
  exact ⟨rB (by rw [G.o,KND.o]<;>first|rfl|(simp only [hZ];done)|(simp only [hZ];rfl)|simp [hZ]),by first|exact K4.o|exact K3.o|exact K2.o⟩
 ·obtain ⟨q1,q2,q3,q4,q5,q6,q7,q8,q9,q10,q11,q12,q13,q14,q15,q16,q17,q18,q19⟩:=hno
  have KND:Hid (Pl.ax ⟨op,1,r,7,k,e,s⟩=false):=hide (by simp [Pl.ax,q1,q2,q3,q4,q5,q6,q7,q8,q9,q10,q11,q12,q13,q14,q15,q16,q17,q18,q19])
  go_wp2_with fail
  go_ret
  exact ⟨rB (by rw [G.o,KND.o]),K2.o⟩
set_option linter.unusedSimpArgs false
theorem FU (w:World) (op r k e s:Int) (h2:Pl.within r 0 3=true) (h3:Pl.iT 7 k e=true) (h4:Pl.within s 0 7=true) :
  Calls prog 71 #[.agg (inA op 2 r 7 k e s)] w fun r' w'=>r'=.returned (.bool (Pl.dF ⟨op,2,r,7,k,e,s⟩))∧Kept 0 0 w w':=by
 have K0:=hide (kept_alloc w (.cells (inA op 2 r 7 k e s) 79))
 have B0:=hide (Blk.new w (inA op 2 r 7 k e s) 79)
 have G:Hid (Pl.dF ⟨op,2,r,7,k,e,s⟩=Pl.ax ⟨op,2,r,7,k,e,s⟩):=hide (by simp only [Pl.dF,Pl.inBase,Pl.lN,h2,h3,h4];rfl)
 have hZ:Pl.iw 7 k e=false:=rfl
 go_enter func71,ntmps71
 go_upto_region 5 with (first|(go_at_call 31;have z9:=B2;refine (dW _ _ _ _).mono ?_;rintro e9 w' ⟨rfl,hw⟩;have hw2:=hw.symm;clear hw;subst hw2;rw [show (decide (0≤s)&&decide (s≤7))=Pl.within s 0 7 from rfl,h4])|(go_at_call 109;refine (uC _).mono ?_;rintro e9 w' ⟨rfl,hw⟩;have hw2:=hw.symm;clear hw;subst hw2)|(go_at_call 31;refine (dW _ _ _ _).mono ?_;rintro e9 w' ⟨rfl,hw⟩;have hw2:=hw.symm;clear hw;subst hw2;rw [show (decide (0≤r)&&decide (r≤3))=Pl.within r 0 3 from rfl,h2])|(go_at_call 110;refine (dZ _ 7 k e).mono ?_;rintro e9 w2 ⟨rfl,k2⟩;rw [h3];have B2:=hide (B0.o.af k2);have K2:=hide (K0.o.trans k2);have c0:=B2.o.cell (i:=0) rfl;have c1:=B2.o.cell (i:=1) rfl;have c2:=B2.o.cell (i:=2) rfl;have c3:=B2.o.cell (i:=3) rfl;have c4:=B2.o.cell (i:=4) rfl;have c5:=B2.o.cell (i:=5) rfl;have c6:=B2.o.cell (i:=6) rfl;clear k2))
 rcases xM op with rfl|rfl|rfl|rfl|rfl|rfl|rfl|rfl|rfl|rfl|rfl|rfl|rfl|rfl|rfl|rfl|rfl|rfl|rfl|hno
 ·have KND:Hid (Pl.ax ⟨1,2,r,7,k,e,s⟩=((s==0)&&(((2:Int)==2) || !((7:Int)==1)))):=hide rfl
  cases a1:(s==0)
  all_goals
   go_wp2_with fail
   go_ret
   exact ⟨rB (by rw [G.o,KND.o]<;>first|rfl|(simp only [a1,hZ];done)|(simp only [a1,hZ];rfl)|simp [a1,hZ]),by first|exact K4.o|exact K3.o|exact K2.o⟩
 ·have KND:Hid (Pl.ax ⟨2,2,r,7,k,e,s⟩=((s==0)&&(((7:Int)==0)||Pl.kD (7:Int)))):=hide rfl
  cases a1:(s==0)
  all_goals
   go_wp2_with (first|(go_at_call 111;refine (lF _ _).mono ?_;rintro e9 w' ⟨rfl,hw⟩;have hw2:=hw.symm;clear hw;subst hw2))
   go_ret
   exact ⟨rB (by rw [G.o,KND.o]<;>first|rfl|(simp only [a1,hZ];done)|(simp only [a1,hZ];rfl)|simp [a1,hZ]),by first|exact K4.o|exact K3.o|exact K2.o⟩
 ·have KND:Hid (Pl.ax ⟨3,2,r,7,k,e,s⟩=((s==0)&&(((2:Int)==2) || !((7:Int)==1)))):=hide rfl
  cases a1:(s==0)
  all_goals
   go_wp2_with fail
   go_ret
   exact ⟨rB (by rw [G.o,KND.o]<;>first|rfl|(simp only [a1,hZ];done)|(simp only [a1,hZ];rfl)|simp [a1,hZ]),by first|exact K4.o|exact K3.o|exact K2.o⟩
 ·have KND:Hid (Pl.ax ⟨4,2,r,7,k,e,s⟩=((s==0)&&(((2:Int)==2) || !((7:Int)==1)))):=hide rfl
  cases a1:(s==0)
  all_goals
   go_wp2_with fail
   go_ret
   exact ⟨rB (by rw [G.o,KND.o]<;>first|rfl|(simp only [a1,hZ];done)|(simp only [a1,hZ];rfl)|simp [a1,hZ]),by first|exact K4.o|exact K3.o|exact K2.o⟩
 ·have KND:Hid (Pl.ax ⟨5,2,r,7,k,e,s⟩=((s==0)&&(((2:Int)==2) || !((7:Int)==1)))):=hide rfl
  cases a1:(s==0)
  all_goals
   go_wp2_with fail
   go_ret
   exact ⟨rB (by rw [G.o,KND.o]<;>first|rfl|(simp only [a1,hZ];done)|(simp only [a1,hZ];rfl)|simp [a1,hZ]),by first|exact K4.o|exact K3.o|exact K2.o⟩
 ·have KND:Hid (Pl.ax ⟨6,2,r,7,k,e,s⟩=((s==0)&&(((2:Int)==2) || !((7:Int)==1)))):=hide rfl
  cases a1:(s==0)
  all_goals
   go_wp2_with fail
   go_ret
   exact ⟨rB (by rw [G.o,KND.o]<;>first|rfl|(simp only [a1,hZ];done)|(simp only [a1,hZ];rfl)|simp [a1,hZ]),by first|exact K4.o|exact K3.o|exact K2.o⟩
 ·have KND:Hid (Pl.ax ⟨7,2,r,7,k,e,s⟩=((s==0)&&(((2:Int)==2) || !((7:Int)==1)))):=hide rfl
  cases a1:(s==0)
  all_goals
   go_wp2_with fail
   go_ret
   exact ⟨rB (by rw [G.o,KND.o]<;>first|rfl|(simp only [a1,hZ];done)|(simp only [a1,hZ];rfl)|simp [a1,hZ]),by first|exact K4.o|exact K3.o|exact K2.o⟩
 ·have KND:Hid (Pl.ax ⟨8,2,r,7,k,e,s⟩=((s==0)&&(((2:Int)==2) || !((7:Int)==1)))):=hide rfl
  cases a1:(s==0)
  all_goals
   go_wp2_with fail
   go_ret
   exact ⟨rB (by rw [G.o,KND.o]<;>first|rfl|(simp only [a1,hZ];done)|(simp only [a1,hZ];rfl)|simp [a1,hZ]),by first|exact K4.o|exact K3.o|exact K2.o⟩
 ·have KND:Hid (Pl.ax ⟨9,2,r,7,k,e,s⟩=(((2:Int)==2)&&(s==0))):=hide rfl
  go_wp2_with fail
  go_ret
  exact ⟨rB (by rw [G.o,KND.o]<;>first|rfl|(simp only [hZ];done)|(simp only [hZ];rfl)|simp [hZ]),by first|exact K4.o|exact K3.o|exact K2.o⟩
 ·have KND:Hid (Pl.ax ⟨10,2,r,7,k,e,s⟩=((((2:Int)==2)&&(s==0))&&Pl.fH (7:Int))):=hide rfl
  cases a1:(s==0)
  all_goals
   go_wp2_with (first|(go_at_call 112;refine (jk _ _).mono ?_;rintro e9 w' ⟨rfl,hw⟩;have hw2:=hw.symm;clear hw;subst hw2))
   go_ret
   exact ⟨rB (by rw [G.o,KND.o]<;>first|rfl|(simp only [a1,hZ];done)|(simp only [a1,hZ];rfl)|simp [a1,hZ]),by first|exact K4.o|exact K3.o|exact K2.o⟩
 ·have KND:Hid (Pl.ax ⟨11,2,r,7,k,e,s⟩=(((r==0)&&decide (s≤3))&&(((7:Int)==0)||Pl.kD (7:Int)))):=hide rfl
  cases a1:(r==0)<;>cases a2:decide (s≤3)
  all_goals
   go_wp2_with (first|(go_at_call 111;refine (lF _ _).mono ?_;rintro e9 w' ⟨rfl,hw⟩;have hw2:=hw.symm;clear hw;subst hw2))
   go_ret
   exact ⟨rB (by rw [G.o,KND.o]<;>first|rfl|(simp only [a1,a2,hZ];done)|(simp only [a1,a2,hZ];rfl)|simp [a1,a2,hZ]),by first|exact K4.o|exact K3.o|exact K2.o⟩
 ·have KND:Hid (Pl.ax ⟨12,2,r,7,k,e,s⟩=(((7:Int)==0))):=hide rfl
  go_wp2_with fail
  go_ret
  exact ⟨rB (by rw [G.o,KND.o]<;>first|rfl|(simp only [hZ];done)|(simp only [hZ];rfl)|simp [hZ]),by first|exact K4.o|exact K3.o|exact K2.o⟩
 ·have KND:Hid (Pl.ax ⟨13,2,r,7,k,e,s⟩=((((2:Int)==2)&&decide (r≤1))&&((7:Int)==7))):=hide rfl
  cases a1:decide (r≤1)
  all_goals
   go_wp2_with fail
   go_ret
   exact ⟨rB (by rw [G.o,KND.o]<;>first|rfl|(simp only [a1,hZ];done)|(simp only [a1,hZ];rfl)|simp [a1,hZ]),by first|exact K4.o|exact K3.o|exact K2.o⟩
 ·have KND:Hid (Pl.ax ⟨14,2,r,7,k,e,s⟩=(((((2:Int)==2)&&(r==0))&&decide (s≤1))&&Pl.fH (7:Int))):=hide rfl
  cases a1:(r==0)<;>cases a2:decide (s≤1)
  all_goals
   go_wp2_with (first|(go_at_call 112;refine (jk _ _).mono ?_;rintro e9 w' ⟨rfl,hw⟩;have hw2:=hw.symm;clear hw;subst hw2))
   go_ret
   exact ⟨rB (by rw [G.o,KND.o]<;>first|rfl|(simp only [a1,a2,hZ];done)|(simp only [a1,a2,hZ];rfl)|simp [a1,a2,hZ]),by first|exact K4.o|exact K3.o|exact K2.o⟩
 ·have KND:Hid (Pl.ax ⟨15,2,r,7,k,e,s⟩=(bif s==3 then (((2:Int)==2)&&(r==0))&&Pl.jv (7:Int) e else ((((2:Int)==2)&&decide (s≤6))&&Pl.iw (7:Int) k e)&&(decide (3<s)||(r==0)))):=hide rfl
  cases a0:(s==3)<;>cases a1:(r==0)<;>cases a2:decide (s≤6)<;>cases a4:decide (3<s)
  all_goals
   go_wp2_with (first|(go_at_call 113;refine (lD 7 k e _).mono ?_;rintro e9 w3 ⟨rfl,k3⟩;have B3:=hide (B2.o.af k3);have K3:=hide (K2.o.trans k3);have d0:=B3.o.cell (i:=0) rfl;have d1:=B3.o.cell (i:=1) rfl;have d2:=B3.o.cell (i:=2) rfl;have d3:=B3.o.cell (i:=3) rfl;have d4:=B3.o.cell (i:=4) rfl;have d5:=B3.o.cell (i:=5) rfl;have d6:=B3.o.cell (i:=6) rfl;clear k3)|(go_at_call 114;have z9:=B3;refine (eU 7 k e _).mono ?_;rintro e9 w4 ⟨rfl,k4⟩;rw [hZ];have B4:=hide (B3.o.af k4);have K4:=hide (K3.o.trans k4);have f0:=B4.o.cell (i:=0) rfl;have f1:=B4.o.cell (i:=1) rfl;have f2:=B4.o.cell (i:=2) rfl;have f3:=B4.o.cell (i:=3) rfl;have f4:=B4.o.cell (i:=4) rfl;have f5:=B4.o.cell (i:=5) rfl;have f6:=B4.o.cell (i:=6) rfl;clear k4)|(go_at_call 114;refine (eU 7 k e _).mono ?_;rintro e9 w4 ⟨rfl,k4⟩;rw [hZ];have B4:=hide (B2.o.af k4);have K4:=hide (K2.o.trans k4);have f0:=B4.o.cell (i:=0) rfl;have f1:=B4.o.cell (i:=1) rfl;have f2:=B4.o.cell (i:=2) rfl;have f3:=B4.o.cell (i:=3) rfl;have f4:=B4.o.cell (i:=4) rfl;have f5:=B4.o.cell (i:=5) rfl;have f6:=B4.o.cell (i:=6) rfl;clear k4))
   go_ret
   exact ⟨rB (by rw [G.o,KND.o]<;>first|rfl|(simp only [a0,a1,a2,a4,hZ];done)|(simp only [a0,a1,a2,a4,hZ];rfl)|simp [a0,a1,a2,a4,hZ]),by first|exact K4.o|exact K3.o|exact K2.o⟩
 ·have KND:Hid (Pl.ax ⟨16,2,r,7,k,e,s⟩=((((2:Int)==2)&&(s==0)) && !((7:Int)==1))):=hide rfl
  cases a1:(s==0)
  all_goals
   go_wp2_with fail
   go_ret
   exact ⟨rB (by rw [G.o,KND.o]<;>first|rfl|(simp only [a1,hZ];done)|(simp only [a1,hZ];rfl)|simp [a1,hZ]),by first|exact K4.o|exact K3.o|exact K2.o⟩
 ·have KND:Hid (Pl.ax ⟨17,2,r,7,k,e,s⟩=((((2:Int)==2)&&(s==0)) && !((7:Int)==1))):=hide rfl
  cases a1:(s==0)
  all_goals
   go_wp2_with fail
   go_ret
   exact ⟨rB (by rw [G.o,KND.o]<;>first|rfl|(simp only [a1,hZ];done)|(simp only [a1,hZ];rfl)|simp [a1,hZ]),by first|exact K4.o|exact K3.o|exact K2.o⟩
 ·have KND:Hid (Pl.ax ⟨18,2,r,7,k,e,s⟩=(((!((2:Int)==2))&&decide (s≤1))&&((7:Int)==0))):=hide rfl
  go_wp2_with fail
  go_ret
  exact ⟨rB (by rw [G.o,KND.o]<;>first|rfl|(simp only [hZ];done)|(simp only [hZ];rfl)|simp [hZ]),by first|exact K4.o|exact K3.o|exact K2.o⟩
 ·have KND:Hid (Pl.ax ⟨19,2,r,7,k,e,s⟩=(((2:Int)==2)&&((((s==0)&&(r==0))&&Pl.jv (7:Int) e)||((s==1)&&Pl.iw (7:Int) k e)))):=hide rfl
  cases a1:(s==0)<;>cases a2:(r==0)<;>cases a3:Pl.jv 7 e<;>cases a4:(s==1)
  all_goals
   go_wp2_with (first|(go_at_call 113;refine (lD 7 k e _).mono ?_;rintro e9 w3 ⟨rfl,k3⟩;rw [a3];have B3:=hide (B2.o.af k3);have K3:=hide (K2.o.trans k3);have d0:=B3.o.cell (i:=0) rfl;have d1:=B3.o.cell (i:=1) rfl;have d2:=B3.o.cell (i:=2) rfl;have d3:=B3.o.cell (i:=3) rfl;have d4:=B3.o.cell (i:=4) rfl;have d5:=B3.o.cell (i:=5) rfl;have d6:=B3.o.cell (i:=6) rfl;clear k3)|(go_at_call 114;have z9:=B3;refine (eU 7 k e _).mono ?_;rintro e9 w4 ⟨rfl,k4⟩;rw [hZ];have B4:=hide (B3.o.af k4);have K4:=hide (K3.o.trans k4);have f0:=B4.o.cell (i:=0) rfl;have f1:=B4.o.cell (i:=1) rfl;have f2:=B4.o.cell (i:=2) rfl;have f3:=B4.o.cell (i:=3) rfl;have f4:=B4.o.cell (i:=4) rfl;have f5:=B4.o.cell (i:=5) rfl;have f6:=B4.o.cell (i:=6) rfl;clear k4)|(go_at_call 114;refine (eU 7 k e _).mono ?_;rintro e9 w4 ⟨rfl,k4⟩;rw [hZ];have B4:=hide (B2.o.af k4);have K4:=hide (K2.o.trans k4);have f0:=B4.o.cell (i:=0) rfl;have f1:=B4.o.cell (i:=1) rfl;have f2:=B4.o.cell (i:=2) rfl;have f3:=B4.o.cell (i:=3) rfl;have f4:=B4.o.cell (i:=4) rfl;have f5:=B4.o.cell (i:=5) rfl;have f6:=B4.o.cell (i:=6) rfl;clear k4))
   go_ret
   exact ⟨rB (by rw [G.o,KND.o]<;>first|rfl|(simp only [a1,a2,a3,a4,hZ];done)|(simp only [a1,a2,a3,a4,hZ];rfl)|simp [a1,a2,a3,a4,hZ]),by first|exact K4.o|exact K3.o|exact K2.o⟩
 ·obtain ⟨q1,q2,q3,q4,q5,q6,q7,q8,q9,q10,q11,q12,q13,q14,q15,q16,q17,q18,q19⟩:=hno
  have KND:Hid (Pl.ax ⟨op,2,r,7,k,e,s⟩=false):=hide (by simp [Pl.ax,q1,q2,q3,q4,q5,q6,q7,q8,q9,q10,q11,q12,q13,q14,q15,q16,q17,q18,q19])
  go_wp2_with fail
  go_ret
  exact ⟨rB (by rw [G.o,KND.o]),K2.o⟩
set_option linter.unusedSimpArgs false
theorem lG (w:World) (op z r m k e s:Int) :
  Calls prog 71 #[.agg (inA op z r m k e s)] w fun r' w'=>r'=.returned (.bool (Pl.dF ⟨op,z,r,m,k,e,s⟩))∧Kept 0 0 w w':=by
 have K0:=hide (kept_alloc w (.cells (inA op z r m k e s) 79))
 have B0:=hide (Blk.new w (inA op z r m k e s) 79)
 cases h1:(decide (z=1)||decide (z=2))
 ·have G:Hid (Pl.dF ⟨op,z,r,m,k,e,s⟩=false):=hide (by simp only [Pl.dF,Pl.inBase,h1];rfl)
  go_enter func71,ntmps71
  go_wp2_with (first|(go_at_call 109;refine (oW _ _).mono ?_;rintro e9 w' ⟨rfl,hw⟩;have hw2:=hw.symm;clear hw;subst hw2;rw [h1]))
  go_ret
  exact ⟨rB G.o.symm,K0.o⟩
 ·cases h2:Pl.within r 0 3
  ·have G:Hid (Pl.dF ⟨op,z,r,m,k,e,s⟩=false):=hide (by simp only [Pl.dF,Pl.inBase,h1,h2];rfl)
   go_enter func71,ntmps71
   go_wp2_with (first|(go_at_call 109;refine (oW _ _).mono ?_;rintro e9 w' ⟨rfl,hw⟩;have hw2:=hw.symm;clear hw;subst hw2;rw [h1])|(go_at_call 31;refine (dW _ _ _ _).mono ?_;rintro e9 w' ⟨rfl,hw⟩;have hw2:=hw.symm;clear hw;subst hw2;rw [show (decide (0≤r)&&decide (r≤3))=Pl.within r 0 3 from rfl,h2]))
   go_ret
   exact ⟨rB G.o.symm,K0.o⟩
  ·cases h3:Pl.iT m k e
   ·have G:Hid (Pl.dF ⟨op,z,r,m,k,e,s⟩=false):=hide (by simp only [Pl.dF,Pl.inBase,h1,h2,h3];rfl)
    go_enter func71,ntmps71
    go_wp2_with (first|(go_at_call 109;refine (oW _ _).mono ?_;rintro e9 w' ⟨rfl,hw⟩;have hw2:=hw.symm;clear hw;subst hw2;rw [h1])|(go_at_call 31;refine (dW _ _ _ _).mono ?_;rintro e9 w' ⟨rfl,hw⟩;have hw2:=hw.symm;clear hw;subst hw2;rw [show (decide (0≤r)&&decide (r≤3))=Pl.within r 0 3 from rfl,h2])|(go_at_call 110;refine (dZ _ m k e).mono ?_;rintro e9 w2 ⟨rfl,k2⟩;rw [h3];have B2:=hide (B0.o.af k2);have K2:=hide (K0.o.trans k2);have c0:=B2.o.cell (i:=0) rfl;have c1:=B2.o.cell (i:=1) rfl;have c2:=B2.o.cell (i:=2) rfl;have c3:=B2.o.cell (i:=3) rfl;have c4:=B2.o.cell (i:=4) rfl;have c5:=B2.o.cell (i:=5) rfl;have c6:=B2.o.cell (i:=6) rfl;clear k2))
    go_ret
    exact ⟨rB G.o.symm,K2.o⟩
   ·cases h4:Pl.within s 0 7
    ·have G:Hid (Pl.dF ⟨op,z,r,m,k,e,s⟩=false):=hide (by simp only [Pl.dF,Pl.inBase,h1,h2,h3,h4];rfl)
     go_enter func71,ntmps71
     go_wp2_with (first|(go_at_call 31;have z9:=B2;refine (dW _ _ _ _).mono ?_;rintro e9 w' ⟨rfl,hw⟩;have hw2:=hw.symm;clear hw;subst hw2;rw [show (decide (0≤s)&&decide (s≤7))=Pl.within s 0 7 from rfl,h4])|(go_at_call 109;refine (oW _ _).mono ?_;rintro e9 w' ⟨rfl,hw⟩;have hw2:=hw.symm;clear hw;subst hw2;rw [h1])|(go_at_call 31;refine (dW _ _ _ _).mono ?_;rintro e9 w' ⟨rfl,hw⟩;have hw2:=hw.symm;clear hw;subst hw2;rw [show (decide (0≤r)&&decide (r≤3))=Pl.within r 0 3 from rfl,h2])|(go_at_call 110;refine (dZ _ m k e).mono ?_;rintro e9 w2 ⟨rfl,k2⟩;rw [h3];have B2:=hide (B0.o.af k2);have K2:=hide (K0.o.trans k2);have c0:=B2.o.cell (i:=0) rfl;have c1:=B2.o.cell (i:=1) rfl;have c2:=B2.o.cell (i:=2) rfl;have c3:=B2.o.cell (i:=3) rfl;have c4:=B2.o.cell (i:=4) rfl;have c5:=B2.o.cell (i:=5) rfl;have c6:=B2.o.cell (i:=6) rfl;clear k2))
     go_ret
     exact ⟨rB G.o.symm,K2.o⟩
    ·cases h6:(m==7)
     ·clear K0 B0
      simp at h1
      rcases h1 with rfl|rfl
      ·exact FX w op r m k e s h2 h3 h4 h6
      ·exact FW w op r m k e s h2 h3 h4 h6
     ·have hm:m=7:=by simpa using h6
      subst hm
      have h1b:=h1
      simp at h1b
      rcases h1b with rfl|rfl
      ·cases h8:decide (255<e)
       ·exact FV w op r k e s h2 h3 h4 h8
       ·have G:Hid (Pl.dF ⟨op,1,r,7,k,e,s⟩=false):=hide (by simp only [Pl.dF,Pl.inBase,Pl.lN,h2,h3,h4,h8];rfl)
        go_enter func71,ntmps71
        go_wp2_with (first|(go_at_call 31;have z9:=B2;refine (dW _ _ _ _).mono ?_;rintro e9 w' ⟨rfl,hw⟩;have hw2:=hw.symm;clear hw;subst hw2;rw [show (decide (0≤s)&&decide (s≤7))=Pl.within s 0 7 from rfl,h4])|(go_at_call 109;refine (oW _ _).mono ?_;rintro e9 w' ⟨rfl,hw⟩;have hw2:=hw.symm;clear hw;subst hw2;rw [h1])|(go_at_call 31;refine (dW _ _ _ _).mono ?_;rintro e9 w' ⟨rfl,hw⟩;have hw2:=hw.symm;clear hw;subst hw2;rw [show (decide (0≤r)&&decide (r≤3))=Pl.within r 0 3 from rfl,h2])|(go_at_call 110;refine (dZ _ 7 k e).mono ?_;rintro e9 w2 ⟨rfl,k2⟩;rw [h3];have B2:=hide (B0.o.af k2);have K2:=hide (K0.o.trans k2);have c0:=B2.o.cell (i:=0) rfl;have c1:=B2.o.cell (i:=1) rfl;have c2:=B2.o.cell (i:=2) rfl;have c3:=B2.o.cell (i:=3) rfl;have c4:=B2.o.cell (i:=4) rfl;have c5:=B2.o.cell (i:=5) rfl;have c6:=B2.o.cell (i:=6) rfl;clear k2))
        go_ret
        exact ⟨rB G.o.symm,K2.o⟩
      ·exact FU w op r k e s h2 h3 h4
set_option linter.unusedSimpArgs false
theorem kS (n:Int) (w:World) (h0:0≤n) (h1:n≤65535):Calls prog 69 #[iv n] w fun e' w'=>e'=.returned (iv (Pl.fD n))∧w'=w:=by
 have hA:=Pl.and7 (n/32)
 cases hE:Pl.jS (n/32%8)
 all_goals
  go_enter func69,ntmps69
  go_wp2_with (first|(go_at_call 108;refine (pq _ _).mono ?_;rintro e9 w' ⟨rfl,hw⟩;have hw2:=hw.symm;clear hw;subst hw2;rw [hE]))
  go_ret
  exact ⟨rI (by simp [Pl.fD,hE]),rfl⟩
theorem oZ (w:World) (op z r m k e s:Int):Calls prog 42 #[.agg (inA op z r m k e s)] w fun e' w'=>e'=.returned (.bool (Pl.iR ⟨op,z,r,m,k,e,s⟩))∧Kept 0 0 w w':=by
 have K0:=hide (kept_alloc w (.cells (inA op z r m k e s) 79))
 cases q1:(op==15)<;>cases q2:(s==1)<;>cases q3:(s==3)<;>cases q4:(op==19)<;>cases q5:(s==0)
 all_goals
  go_enter func42,ntmps42
  go_wp2_with fail
  go_ret
  exact ⟨rB (by simp only [Pl.iR,q1,q2,q3,q4,q5];rfl),K0.o⟩
theorem nK (w:World) (n v:Int) (h0:0≤n) (h1:n≤65535):Calls prog 70 #[iv n,iv v] w fun e' w'=>e'=.returned (.agg #[iv (Pl.decode n v).op,iv (Pl.decode n v).z,iv (Pl.decode n v).r,iv (Pl.decode n v).m,iv (Pl.decode n v).k,iv (Pl.decode n v).e,iv (Pl.decode n v).s])∧Kept 0 0 w w':=by
 have A1:=Pl.and1 (n/1024)
 have A2:=Pl.Ws (n/256)
 have A3:=Pl.and7 (n/32)
 have A4:=Pl.Ws (n/8)
 have A5:=Pl.and7 n
 by_cases hL:Pl.fD n=2
 ·have E:Hid (Pl.decode n v=⟨n/2048,n/1024%2+1,n/256%4,n/32%8,n/8%4,v,n%8⟩):=hide (by simp [Pl.decode,hL])
  go_enter func70,ntmps70
  go_wp2_with (first|(go_at_call 69;refine (kS _ _ h0 h1).mono ?_;rintro e9 w' ⟨rfl,hw⟩;have hw2:=hw.symm;clear hw;subst hw2;rw [hL]))
  refine bodyPost_ret (v:=.agg (inA (n/2048) (n/1024%2+1) (n/256%4) (n/32%8) (n/8%4) v (n%8))) ?_ rfl ⟨by rw [E.o],?_⟩
  ·rw [aj rfl];go_simp
  ·repeat' (first|exact Kept.refl _ _ _|refine ah ?_ _|refine ag ?_ _ _ _ (.inr (by omega)))
 ·have E:Hid (Pl.decode n v=⟨n/2048,n/1024%2+1,n/256%4,n/32%8,n/8%4,0,n%8⟩):=hide (by simp [Pl.decode,hL])
  have hL2:Pl.fD n=1:=by unfold Pl.fD at hL ⊢;split at hL<;>simp_all
  go_enter func70,ntmps70
  go_wp2_with (first|(go_at_call 69;refine (kS _ _ h0 h1).mono ?_;rintro e9 w' ⟨rfl,hw⟩;have hw2:=hw.symm;clear hw;subst hw2;rw [hL2]))
  refine bodyPost_ret (v:=.agg (inA (n/2048) (n/1024%2+1) (n/256%4) (n/32%8) (n/8%4) 0 (n%8))) ?_ rfl ⟨by rw [E.o],?_⟩
  ·rw [aj rfl];go_simp
  ·repeat' (first|exact Kept.refl _ _ _|refine ah ?_ _|refine ag ?_ _ _ _ (.inr (by omega)))
namespace Pl
structure InB (x:In):Prop where
 z:x.z=1∨x.z=2
 r0:0≤x.r
 r1:x.r≤3
 m0:0≤x.m
 m1:x.m≤7
 k0:0≤x.k
 k1:x.k≤3
 e0:0≤x.e
 e1:x.e≤65535
 s0:0≤x.s
 s1:x.s≤7
 n7:x.m=7→okv x.z x.e=true
theorem vK {x:In} (h:dF x=true):InB x:=by
 simp only [dF,inBase,iT,dB,aS,within,lN,Bool.and_eq_true,Bool.or_eq_true,decide_eq_true_eq,Bool.not_eq_true',Bool.and_eq_false_iff,beq_iff_eq,decide_eq_false_iff_not,beq_eq_false_iff_ne] at h
 obtain ⟨⟨hz,⟨r0,r1⟩,⟨⟨m0,m1⟩,⟨k0,k1⟩,_,⟨e0,e1⟩,_⟩,⟨s0,s1⟩,hb⟩,_⟩:=h
 refine ⟨hz,r0,r1,m0,m1,k0,k1,e0,e1,s0,s1,fun h7 => ?_⟩
 rcases hz with hz|hz
 ·rw [hz];simp [okv,top];omega
 ·rw [hz];simp [okv,top];omega
theorem GM.read {c:Mc} (h:GM c) {z m k e:Int} (hz:z=1∨z=2) (k0:0≤k) (k1:k≤3) (e0:0≤e) (e1:e≤65535):GM (c.read z m k e):=by
 unfold Mc.read
 cases Mc.gI m
 ·have q:=iM h.g (z:=z) (m:=m) k0 k1 e0 e1
  exact (h.plc k0 k1).acc (yM hz q.1 q.2)
 ·exact h
theorem GM.place {c:Mc} (h:GM c) {z m k e:Int} (k0:0≤k) (k1:k≤3):GM (c.place z m k e):=by
 unfold Mc.place
 cases m==0
 ·exact h.plc k0 k1
 ·exact h
theorem qm {c:Mc} (h:GM c) {z m k e:Int} (k0:0≤k) (k1:k≤3) (e0:0≤e) (e1:e≤65535):0≤c.iL z m k e∧c.iL z m k e≤65535:=by
 unfold Mc.iL
 cases m==0
 ·exact iM h.g k0 k1 e0 e1
 ·exact ⟨Int.le_refl 0,(by decide:(0:Int)≤65535)⟩
theorem di {c:Mc} (h:GM c) {z m k e:Int} (hz:z=1∨z=2) (k0:0≤k) (k1:k≤3) (e0:0≤e) (e1:e≤65535) (h1:m=1→z=2) (h7:m=7→okv z e=true):okv z (c.aY z m k e)=true:=by
 unfold Mc.aY
 cases q0:(m==0)
 ·cases q1:(m==1)
  ·cases q7:(m==7)
   ·have q:=iM h.g (z:=z) (m:=m) k0 k1 e0 e1
    exact (h.plc k0 k1).jE (yM hz q.1 q.2)
   ·exact h7 (by simpa using q7)
  ·have e:=h1 (by simpa using q1)
   subst e
   have q:=h.g.aw k.toNat (by omega)
   show okv 2 (el c.r.ys k.toNat)=true
   simp [okv,top];omega
 ·exact fJ h hz k0 k1
theorem zk (r:Rg) (z m k e:Int):(cZ r z m k e).f=r.f:=by
 unfold cZ;split
 ·rfl
 ·split<;>rfl
theorem xG (c:Mc) (z m k e:Int):(c.read z m k e).r.f=c.r.f:=by
 unfold Mc.read;cases Mc.gI m
 ·exact zk c.r z m k e
 ·rfl
theorem xJ (c:Mc) (z m k e:Int):(c.place z m k e).r.f=c.r.f:=by
 unfold Mc.place;cases m==0
 ·exact zk c.r z m k e
 ·rfl
theorem xI (c:Mc) (z m k e:Int):(c.place z m k e).r.p=c.r.p:=by
 unfold Mc.place;cases m==0
 ·exact ru c.r z m k e
 ·rfl
theorem uM {z a b:Int} (ha:okv z a=true) (hb:okv z b=true):two z 0 a b=true:=by unfold two;rw [ha,hb];rfl
theorem vw {z a b:Int} (ha:okv z a=true):okv z (qQ z 0 a b)=true:=by
 have:=aP ha
 unfold qQ
 split
 ·rcases this.1 with ⟨rfl,e⟩|⟨rfl,e⟩<;>rw [e]<;>simp [okv,top]<;>omega
 ·rcases this.1 with ⟨rfl,e⟩|⟨rfl,e⟩<;>simp [okv,top]
theorem mQ {z a b:Int} (hz:z=1∨z=2):okv z (kR z 0 a b)=true:=by
 unfold kR
 split
 ·rcases hz with rfl|rfl<;>simp [okv,top]<;>omega
 ·rcases hz with rfl|rfl<;>simp [okv,top]
theorem kN (n:Nat) (h:n<65536):(BitVec.ofInt 64 (n:Int)).toNat=n:=by rw [BitVec.toNat_ofInt];omega
theorem bits_nat (a b:Nat) (ha:a<65536) (hb:b<65536):bits .and .i64 (a:Int) (b:Int)=((a &&& b:Nat):Int)∧bits .or .i64 (a:Int) (b:Int)=((a ||| b:Nat):Int)∧bits .xor .i64 (a:Int) (b:Int)=((a ^^^ b:Nat):Int):=by
 have h1:a &&& b<2^16:=Nat.and_lt_two_pow a hb
 have h2:a ||| b<2^16:=Nat.or_lt_two_pow ha hb
 have h3:a ^^^ b<2^16:=Nat.xor_lt_two_pow ha hb
 refine ⟨?_,?_,?_⟩
 ·show IntKind.i64.wrap ((BitVec.ofInt 64 a &&& BitVec.ofInt 64 b).toNat:Int)=_
  rw [BitVec.toNat_and,kN a ha,kN b hb,IntKind.wrap_i64];omega
 ·show IntKind.i64.wrap ((BitVec.ofInt 64 a ||| BitVec.ofInt 64 b).toNat:Int)=_
  rw [BitVec.toNat_or,kN a ha,kN b hb,IntKind.wrap_i64];omega
 ·show IntKind.i64.wrap ((BitVec.ofInt 64 a ^^^ BitVec.ofInt 64 b).toNat:Int)=_
  rw [BitVec.toNat_xor,kN a ha,kN b hb,IntKind.wrap_i64];omega
theorem mV {z a b:Int} (ha:okv z a=true) (hb:okv z b=true):okv z (bits .and .i64 a b)=true∧okv z (bits .or .i64 a b)=true∧okv z (bits .xor .i64 a b)=true:=by
 have t1:=aP ha
 have t2:=aP hb
 obtain ⟨x,rfl⟩:∃x:Nat,a=(x:Int):=⟨a.toNat,by omega⟩
 obtain ⟨y,rfl⟩:∃y:Nat,b=(y:Int):=⟨b.toNat,by omega⟩
 obtain ⟨e1,e2,e3⟩:=bits_nat x y (by omega) (by omega)
 rw [e1,e2,e3]
 rcases t1.1 with ⟨rfl,e⟩|⟨rfl,e⟩<;>rw [e] at t1 t2
 ·have h1:x &&& y<2^8:=Nat.and_lt_two_pow x (by omega)
  have h2:x ||| y<2^8:=Nat.or_lt_two_pow (by omega) (by omega)
  have h3:x ^^^ y<2^8:=Nat.xor_lt_two_pow (by omega) (by omega)
  simp [okv,top];omega
 ·have h1:x &&& y<2^16:=Nat.and_lt_two_pow x (by omega)
  have h2:x ||| y<2^16:=Nat.or_lt_two_pow (by omega) (by omega)
  have h3:x ^^^ y<2^16:=Nat.xor_lt_two_pow (by omega) (by omega)
  simp [okv,top];omega
end Pl
theorem SC {z a b:Int} (w:World) (ha:Pl.okv z a=true) (hb:Pl.okv z b=true):Calls prog 131 #[iv z,iv 0,iv a,iv b] w fun e w'=>e=.returned (.tuple #[iv (Pl.qQ z 0 a b),iv (Pl.ji z 0 a b)])∧w'=w:=by
 have h2:=Pl.uM ha hb
 have t1:=Pl.aP ha
 have t2:=Pl.aP hb
 unfold Pl.qQ Pl.ji
 rw [if_pos h2,if_pos h2]
 rcases t1.1 with ⟨rfl,e⟩|⟨rfl,e⟩
 ·rw [e] at t1 t2 ⊢;exact SH 0 a b w (by omega) (by omega) (by omega) (by omega) (by omega) (by omega)
 ·rw [e] at t1 t2 ⊢;exact SG 0 a b w (by omega) (by omega) (by omega) (by omega) (by omega) (by omega)
theorem SB {z f a b:Int} (w:World) (ha:Pl.okv z a=true) (hb:Pl.okv z b=true) (hf:Pl.flags f=true):Calls prog 132 #[iv z,iv f,iv a,iv b] w fun e w'=>e=.returned (iv (Pl.oH z f a b))∧w'=w:=by
 have h2:=Pl.uM ha hb
 have e:Pl.oH z f a b=bits .or .i64 (bits .and .i64 (Pl.gz z 0 a b) 15) (bits .and .i64 f 16):=by unfold Pl.oH;rw [h2,hf];rfl
 rw [e]
 exact VI z f a b w h2
theorem cellsS {W:World} {p gd cd ga ca g1 c1 g2 c2 b:Nat} {c:Pl.Mc} {x:Pl.In} {ty:TypeId} (hB:MB W p gd cd ga ca g1 c1 g2 c2 c) (hX:Blk W b (lZ x) ty):W.cell? ⟨p,0,none⟩=some (.slice (some ⟨gd,0,none⟩) 4 cd)∧W.cell? ⟨p,1,none⟩=some (.slice (some ⟨ga,0,none⟩) 4 ca)∧W.cell? ⟨p,2,none⟩=some (iv c.r.o)∧W.cell? ⟨p,3,none⟩=some (iv c.r.p)∧W.cell? ⟨p,4,none⟩=some (iv c.r.f)∧W.cell? ⟨p,5,none⟩=some (iv c.r.m)∧W.cell? ⟨p,6,none⟩=some (.bool c.r.s)∧W.cell? ⟨p,7,none⟩=some (.bool c.r.t)∧W.cell? ⟨b,1,none⟩=some (iv x.z)∧W.cell? ⟨b,2,none⟩=some (iv x.r):=by
 obtain ⟨t0,t1,t2,t3,t4,t5,t6,t7,_⟩:=hB.cells
 obtain ⟨b0,b1,b2,b3,b4,b5,b6⟩:=aF hX
 exact ⟨t0,t1,t2,t3,t4,t5,t6,t7,b1,b2⟩
theorem Ob (w:World) (lo mid hi p g2:Nat) (c:Pl.Mc) (x:Pl.In) (h:MAt w lo mid hi p g2 c) (G:Pl.GM c) (B:Pl.InB x) (h1:x.m=1→x.z=2) (hf:(c.read x.z x.m x.k x.e).fine=false) :
  Calls prog 86 #[.pointer (some ⟨p,0,none⟩),.agg (inX x)] w fun e w'=>e=.returned (.tuple #[])∧∃g3,MAt w' lo mid hi p g3 (c.two x)∧Since w lo hi g2 w' g3:=by
 have HG:=hide G
 have HI:=hide B
 have HV:=hide (Pl.di G B.z B.k0 B.k1 B.e0 B.e1 h1 B.n7)
 have HG1:=hide (G.read (m:=x.m) B.z B.k0 B.k1 B.e0 B.e1)
 have hl:=h.lo
 obtain ⟨X,hX,KA,HX,hbw,HHB,HGB,HPH,HPB,HMH,HS,HM⟩:=h.dL x
 obtain ⟨b0,b1,b2,b3,b4,b5,b6⟩:=aF HX.o
 clear h
 obtain ⟨gd,cd,ga,ca,g1,c1,c2,HB,HO⟩:=HM.o.op
 clear G B h1
 have E:Hid (c.two x=c.read x.z x.m x.k x.e):=hide (by unfold Pl.Mc.two;rw [hf];rfl)
 go_enter func86,ntmps86
 go_wp2_with (first|(go_at_call 72;refine (jJ _ lo mid hi p g2 c x.z x.m x.k x.e HM.o HG.o HI.o.z HI.o.k0 HI.o.k1 HI.o.e0 HI.o.e1 HI.o.m0 HI.o.m1).mono ?_;rintro e9 W_1 ⟨rfl,aT,hm9,hb9⟩;obtain ⟨bg,bY,bI⟩:=hb9.nx HX HHB HGB HS;clear hb9;have aW:=hide hm9;obtain ⟨bQ,bU,bT,bV,eu,eP,eG,aX,bu⟩:=hm9.op;obtain ⟨lT,kX,oD,kC,oC,oz,ou,oh⟩:=aX.o.c8;clear b0 b1 b2 b3 b4 b5 b6;obtain ⟨b0,b1,b2,b3,b4,b5,b6⟩:=aF bg.o)|(go_at_call 41;refine st (bK _ lo mid hi p aT _ aW.o) ?_;rw [hf]))
 first|go_end0|refine bodyPost_ret (results_none rfl _ _ _) rfl ?_
 exact ⟨rfl,aT,by rw [E.o];exact aW.o,bI.o⟩
theorem IX (w:World) (lo mid hi p g2:Nat) (c:Pl.Mc) (x:Pl.In) (h:MAt w lo mid hi p g2 c) (G:Pl.GM c) (B:Pl.InB x) (h1:x.m=1→x.z=2) (hf:(c.read x.z x.m x.k x.e).fine=true) (ho:x.op=8) :
  Calls prog 86 #[.pointer (some ⟨p,0,none⟩),.agg (inX x)] w fun e w'=>e=.returned (.tuple #[])∧∃g3,MAt w' lo mid hi p g3 (c.two x)∧Since w lo hi g2 w' g3:=by
 have HG:=hide G
 have HI:=hide B
 have HV:=hide (Pl.di G B.z B.k0 B.k1 B.e0 B.e1 h1 B.n7)
 have HG1:=hide (G.read (m:=x.m) B.z B.k0 B.k1 B.e0 B.e1)
 have HOP:=hide ho
 clear ho
 have hl:=h.lo
 obtain ⟨X,hX,KA,HX,hbw,HHB,HGB,HPH,HPB,HMH,HS,HM⟩:=h.dL x
 obtain ⟨b0,b1,b2,b3,b4,b5,b6⟩:=aF HX.o
 rw [HOP.o] at b0
 clear h
 obtain ⟨gd,cd,ga,ca,g1,c1,c2,HB,HO⟩:=HM.o.op
 clear G B h1
 have HQ:Hid (el (c.read x.z x.m x.k x.e).r.xs x.r.toNat%Pl.top x.z=(c.read x.z x.m x.k x.e).low x.z x.r):=hide rfl
 have HQ0:=Pl.fJ HG1.o HI.o.z HI.o.r0 HI.o.r1
 obtain ⟨d,hd⟩:∃d,c.read x.z x.m x.k x.e=d:=⟨_,rfl⟩
 obtain ⟨v,hv⟩:∃v,c.aY x.z x.m x.k x.e=v:=⟨_,rfl⟩
 have E:Hid (c.two x=d.two' x (d.low x.z x.r) v):=hide (by unfold Pl.Mc.two;rw [hf,hd,hv];rfl)
 have HRD:=fun w9 h9=>jJ w9 lo mid hi p g2 c x.z x.m x.k x.e h9 HG.o HI.o.z HI.o.k0 HI.o.k1 HI.o.e0 HI.o.e1 HI.o.m0 HI.o.m1
 rw [hd] at hf HG1 HQ HQ0
 rw [hv] at HV
 simp only [hd,hv] at HRD
 clear hd hv
 obtain ⟨q,hq⟩:∃q,d.low x.z x.r=q:=⟨_,rfl⟩
 rw [hq] at E HQ HQ0
 clear hq
 have HF:=hide (Pl.bG HG1.o)
 have HVQ:=hide HQ0
 have E2:Hid (d.two' x q v=d.aB (Pl.oH x.z d.r.f q v)):=hide (by unfold Pl.Mc.two';rw [HOP.o];rfl)
 go_enter func86,ntmps86
 go_wp2_with (first|(go_at_call 72;refine (HRD _ HM.o).mono ?_;rintro e9 W_1 ⟨rfl,aT,hm9,hb9⟩;obtain ⟨bg,bY,bI⟩:=hb9.nx HX HHB HGB HS;clear hb9;have aW:=hide hm9;obtain ⟨bQ,bU,bT,bV,eu,eP,eG,aX,bu⟩:=hm9.op;obtain ⟨lT,kX,oD,kC,oC,oz,ou,oh⟩:=aX.o.c8;clear b0 b1 b2 b3 b4 b5 b6;obtain ⟨b0,b1,b2,b3,b4,b5,b6⟩:=aF bg.o;rw [HOP.o] at b0)|(go_at_call 41;refine st (bK _ lo mid hi p aT _ aW.o) ?_;rw [hf]))
 have HD:=hide (bu.o.any (ae (Kept.refl 0 0 W_1))).d
 have S1D:=cellsS (aX.o.any (ae (Kept.refl 0 0 W_1))) (bg.o.af (ae (Kept.refl 0 0 W_1)))
 go_region_held3 (fun w'=>w'.cell? ⟨p,0,none⟩=some (.slice (some ⟨bQ,0,none⟩) 4 bU)∧w'.cell? ⟨p,1,none⟩=some (.slice (some ⟨bT,0,none⟩) 4 bV)∧w'.cell? ⟨p,2,none⟩=some (iv d.r.o)∧w'.cell? ⟨p,3,none⟩=some (iv d.r.p)∧w'.cell? ⟨p,4,none⟩=some (iv d.r.f)∧w'.cell? ⟨p,5,none⟩=some (iv d.r.m)∧w'.cell? ⟨p,6,none⟩=some (.bool d.r.s)∧w'.cell? ⟨p,7,none⟩=some (.bool d.r.t)∧w'.cell? ⟨w.heap.size,1,none⟩=some (iv x.z)∧w'.cell? ⟨w.heap.size,2,none⟩=some (iv x.r)) (first|with_reducible exact S1D|with_reducible exact cellsS aN.o dM.o|go_keep) (first|(go_at_call 74;refine (wG _ bQ bU bT bV d.r x.z x.r HD.o HG1.o.g HI.o.z HI.o.r0 HI.o.r1).mono ?_;rw [HQ.o];rintro e9 W_2 ⟨rfl,hk9⟩;have K2:=hide ((ae (Kept.refl 0 0 W_1)).trans hk9);clear hk9;have gZ:=hide (aW.o.any K2.o);have aN:=hide (aX.o.any K2.o);have iq:=hide (bu.o.any K2.o);have dM:=hide (bg.o.af K2.o);have gX:=hide (bI.o.any K2.o);obtain ⟨xB,xA,xy,uN,sD,xx,xw,xu,rZ,rY,mM,mJ,mG,mF,mD,mi⟩:=aN.o.cells;clear rZ rY mM mJ mG mF mD mi;have yx:=aN.o.frozen 0;have yw:=aN.o.frozen 1;have yu:=aN.o.frozen 2;have vP:=aN.o.frozen 3;have tu:=aN.o.frozen 4;have yt:=aN.o.frozen 5;have yl:=aN.o.frozen 6;have yj:=aN.o.frozen 7;clear b0 b1 b2 b3 b4 b5 b6;obtain ⟨b0,b1,b2,b3,b4,b5,b6⟩:=aF dM.o;rw [HOP.o] at b0;clear lT kX oD kC oC oz ou oh))
 go_wp2_with (go_at_call 132;refine st (SB _ HVQ.o HV.o HF.o) ?_)
 first|go_end0|refine bodyPost_ret (results_none rfl _ _ _) rfl ?_
 exact ⟨rfl,aT,by rw [E.o,E2.o];exact gZ.o.cF _,gX.o.set p 4 _ HPH.o⟩
theorem IZ (w:World) (lo mid hi p g2:Nat) (c:Pl.Mc) (x:Pl.In) (h:MAt w lo mid hi p g2 c) (G:Pl.GM c) (B:Pl.InB x) (h1:x.m=1→x.z=2) (hf:(c.read x.z x.m x.k x.e).fine=true) (ho:x.op=3) :
  Calls prog 86 #[.pointer (some ⟨p,0,none⟩),.agg (inX x)] w fun e w'=>e=.returned (.tuple #[])∧∃g3,MAt w' lo mid hi p g3 (c.two x)∧Since w lo hi g2 w' g3:=by
 have HG:=hide G
 have HI:=hide B
 have HV:=hide (Pl.di G B.z B.k0 B.k1 B.e0 B.e1 h1 B.n7)
 have HG1:=hide (G.read (m:=x.m) B.z B.k0 B.k1 B.e0 B.e1)
 have HOP:=hide ho
 clear ho
 have hl:=h.lo
 obtain ⟨X,hX,KA,HX,hbw,HHB,HGB,HPH,HPB,HMH,HS,HM⟩:=h.dL x
 obtain ⟨b0,b1,b2,b3,b4,b5,b6⟩:=aF HX.o
 rw [HOP.o] at b0
 clear h
 obtain ⟨gd,cd,ga,ca,g1,c1,c2,HB,HO⟩:=HM.o.op
 clear G B h1
 have HQ:Hid (el (c.read x.z x.m x.k x.e).r.xs x.r.toNat%Pl.top x.z=(c.read x.z x.m x.k x.e).low x.z x.r):=hide rfl
 have HQ0:=Pl.fJ HG1.o HI.o.z HI.o.r0 HI.o.r1
 obtain ⟨d,hd⟩:∃d,c.read x.z x.m x.k x.e=d:=⟨_,rfl⟩
 obtain ⟨v,hv⟩:∃v,c.aY x.z x.m x.k x.e=v:=⟨_,rfl⟩
 have E:Hid (c.two x=d.two' x (d.low x.z x.r) v):=hide (by unfold Pl.Mc.two;rw [hf,hd,hv];rfl)
 have HRD:=fun w9 h9=>jJ w9 lo mid hi p g2 c x.z x.m x.k x.e h9 HG.o HI.o.z HI.o.k0 HI.o.k1 HI.o.e0 HI.o.e1 HI.o.m0 HI.o.m1
 rw [hd] at hf HG1 HQ HQ0
 rw [hv] at HV
 simp only [hd,hv] at HRD
 clear hd hv
 obtain ⟨q,hq⟩:∃q,d.low x.z x.r=q:=⟨_,rfl⟩
 rw [hq] at E HQ HQ0
 clear hq
 have HF:=hide (Pl.bG HG1.o)
 have HVQ:=hide HQ0
 have E2:Hid (d.two' x q v=(d.aB (Pl.ji x.z 0 q v)).put x.z x.r (Pl.qQ x.z 0 q v)):=hide (by unfold Pl.Mc.two';rw [HOP.o];rfl)
 have HVV:Hid (Pl.okv x.z (Pl.qQ x.z 0 q v)=true):=hide (Pl.vw HVQ.o)
 have HGF:=hide (HG1.o.aB (v:=Pl.ji x.z 0 q v) (Pl.yO x.z 0 q v).1 (Pl.yO x.z 0 q v).2).g
 go_enter func86,ntmps86
 go_wp2_with (first|(go_at_call 72;refine (HRD _ HM.o).mono ?_;rintro e9 W_1 ⟨rfl,aT,hm9,hb9⟩;obtain ⟨bg,bY,bI⟩:=hb9.nx HX HHB HGB HS;clear hb9;have aW:=hide hm9;obtain ⟨bQ,bU,bT,bV,eu,eP,eG,aX,bu⟩:=hm9.op;obtain ⟨lT,kX,oD,kC,oC,oz,ou,oh⟩:=aX.o.c8;clear b0 b1 b2 b3 b4 b5 b6;obtain ⟨b0,b1,b2,b3,b4,b5,b6⟩:=aF bg.o;rw [HOP.o] at b0)|(go_at_call 41;refine st (bK _ lo mid hi p aT _ aW.o) ?_;rw [hf]))
 have HD:=hide (bu.o.any (ae (Kept.refl 0 0 W_1))).d
 have S1D:=cellsS (aX.o.any (ae (Kept.refl 0 0 W_1))) (bg.o.af (ae (Kept.refl 0 0 W_1)))
 go_region_held3 (fun w'=>w'.cell? ⟨p,0,none⟩=some (.slice (some ⟨bQ,0,none⟩) 4 bU)∧w'.cell? ⟨p,1,none⟩=some (.slice (some ⟨bT,0,none⟩) 4 bV)∧w'.cell? ⟨p,2,none⟩=some (iv d.r.o)∧w'.cell? ⟨p,3,none⟩=some (iv d.r.p)∧w'.cell? ⟨p,4,none⟩=some (iv d.r.f)∧w'.cell? ⟨p,5,none⟩=some (iv d.r.m)∧w'.cell? ⟨p,6,none⟩=some (.bool d.r.s)∧w'.cell? ⟨p,7,none⟩=some (.bool d.r.t)∧w'.cell? ⟨w.heap.size,1,none⟩=some (iv x.z)∧w'.cell? ⟨w.heap.size,2,none⟩=some (iv x.r)) (first|with_reducible exact S1D|with_reducible exact cellsS aN.o dM.o|go_keep) (first|(go_at_call 74;refine (wG _ bQ bU bT bV d.r x.z x.r HD.o HG1.o.g HI.o.z HI.o.r0 HI.o.r1).mono ?_;rw [HQ.o];rintro e9 W_2 ⟨rfl,hk9⟩;have K2:=hide ((ae (Kept.refl 0 0 W_1)).trans hk9);clear hk9;have gZ:=hide (aW.o.any K2.o);have aN:=hide (aX.o.any K2.o);have iq:=hide (bu.o.any K2.o);have dM:=hide (bg.o.af K2.o);have gX:=hide (bI.o.any K2.o);obtain ⟨xB,xA,xy,uN,sD,xx,xw,xu,rZ,rY,mM,mJ,mG,mF,mD,mi⟩:=aN.o.cells;clear rZ rY mM mJ mG mF mD mi;have yx:=aN.o.frozen 0;have yw:=aN.o.frozen 1;have yu:=aN.o.frozen 2;have vP:=aN.o.frozen 3;have tu:=aN.o.frozen 4;have yt:=aN.o.frozen 5;have yl:=aN.o.frozen 6;have yj:=aN.o.frozen 7;clear b0 b1 b2 b3 b4 b5 b6;obtain ⟨b0,b1,b2,b3,b4,b5,b6⟩:=aF dM.o;rw [HOP.o] at b0;clear lT kX oD kC oC oz ou oh))
 go_wp2_with ((go_at_call 131;refine st (SC _ HVQ.o HV.o) ?_))
 have HBY:=hide ((aN.o.cF (Pl.ji x.z 0 q v)).any (ae (Kept.refl 0 0 (W_2.setCell ⟨p,4,none⟩ (iv (Pl.ji x.z 0 q v))))))
 have HOY:=hide ((iq.o.own (ak _ p 4 (iv (Pl.ji x.z 0 q v)))).any (ae (Kept.refl 0 0 (W_2.setCell ⟨p,4,none⟩ (iv (Pl.ji x.z 0 q v))))))
 have HSY:=hide ((gX.o.set p 4 (iv (Pl.ji x.z 0 q v)) HPH.o).drew)
 have HXY:=hide ((dM.o.other p 4 (iv (Pl.ji x.z 0 q v)) (by have:=HPB.o;omega)).af (ae (Kept.refl 0 0 (W_2.setCell ⟨p,4,none⟩ (iv (Pl.ji x.z 0 q v))))))
 have HRY:=hide (MO.reg (r:=(d.aB (Pl.ji x.z 0 q v)).r) HOY.o)
 have HMY:Hid (mid≤(W_2.setCell ⟨p,4,none⟩ (iv (Pl.ji x.z 0 q v))).drew.heap.size):=hide (Nat.le_trans HMH.o HOY.o.hh)
 have HPM:=HOY.o.p0
 have HNM:Hid (¬(lo≤w.heap.size∧w.heap.size<mid)):=hide (by have:=HHB.o;have:=HMH.o;omega)
 have HNP:Hid (¬(p≤w.heap.size∧w.heap.size<p+1)):=hide (by have:=HPB.o;omega)
 have SYD:=cellsS HBY.o HXY.o
 go_region_held3 (fun w'=>w'.cell? ⟨p,0,none⟩=some (.slice (some ⟨bQ,0,none⟩) 4 bU)∧w'.cell? ⟨p,1,none⟩=some (.slice (some ⟨bT,0,none⟩) 4 bV)∧w'.cell? ⟨p,2,none⟩=some (iv (d.aB (Pl.ji x.z 0 q v)).r.o)∧w'.cell? ⟨p,3,none⟩=some (iv (d.aB (Pl.ji x.z 0 q v)).r.p)∧w'.cell? ⟨p,4,none⟩=some (iv (d.aB (Pl.ji x.z 0 q v)).r.f)∧w'.cell? ⟨p,5,none⟩=some (iv (d.aB (Pl.ji x.z 0 q v)).r.m)∧w'.cell? ⟨p,6,none⟩=some (.bool (d.aB (Pl.ji x.z 0 q v)).r.s)∧w'.cell? ⟨p,7,none⟩=some (.bool (d.aB (Pl.ji x.z 0 q v)).r.t)∧w'.cell? ⟨w.heap.size,1,none⟩=some (iv x.z)∧w'.cell? ⟨w.heap.size,2,none⟩=some (iv x.r)) (first|with_reducible exact SYD|with_reducible exact cellsS aG.o jd.o|exact cellsS (aG.o.laid (Pl.jr (d.aB (Pl.ji x.z 0 q v)).r x.z x.r (Pl.qQ x.z 0 q v))) (Blk.kept jd.o (MB.jb _ _ _ _ _ _ _ _) HNP.o)|go_keep) (first|(go_at_call 79;refine (qH _ lo mid bQ bU bT bV (d.aB (Pl.ji x.z 0 q v)).r x.z x.r (Pl.qQ x.z 0 q v) HRY.o HMY.o HGF.o HI.o.r0 HI.o.r1 HVV.o).mono ?_;unfold iK;rintro e9 W_9 ⟨rfl,hr9,hk9⟩;have jU:=hide (HOY.o.regs hr9 hk9);have aG:=hide (HBY.o.regs hk9 HPM);have jd:=hide (Blk.kept HXY.o hk9 HNM.o);have jT:=hide (HSY.o.ai hk9 (Nat.le_refl _) HMH.o);clear hr9 hk9;obtain ⟨u0,u1,u2,u3,u4,u5,u6,u7,_⟩:=aG.o.cells;have f0:=aG.o.frozen 0;have f1:=aG.o.frozen 1;have f2:=aG.o.frozen 2;have f3:=aG.o.frozen 3;have f4:=aG.o.frozen 4;have f5:=aG.o.frozen 5;have f6:=aG.o.frozen 6;have f7:=aG.o.frozen 7))
 go_wp2_with fail
 first|go_end0|refine bodyPost_ret (results_none rfl _ _ _) rfl ?_
 exact ⟨rfl,aT,by rw [E.o,E2.o];exact MAt.laid aG.o jU.o,fG jT.o HPH.o _ _ _ _ _ _ _ _⟩
theorem IW (w:World) (lo mid hi p g2:Nat) (c:Pl.Mc) (x:Pl.In) (h:MAt w lo mid hi p g2 c) (G:Pl.GM c) (B:Pl.InB x) (h1:x.m=1→x.z=2) (hf:(c.read x.z x.m x.k x.e).fine=true) (ho:x.op=4) :
  Calls prog 86 #[.pointer (some ⟨p,0,none⟩),.agg (inX x)] w fun e w'=>e=.returned (.tuple #[])∧∃g3,MAt w' lo mid hi p g3 (c.two x)∧Since w lo hi g2 w' g3:=by
 have HG:=hide G
 have HI:=hide B
 have HV:=hide (Pl.di G B.z B.k0 B.k1 B.e0 B.e1 h1 B.n7)
 have HG1:=hide (G.read (m:=x.m) B.z B.k0 B.k1 B.e0 B.e1)
 have HOP:=hide ho
 clear ho
 have hl:=h.lo
 obtain ⟨X,hX,KA,HX,hbw,HHB,HGB,HPH,HPB,HMH,HS,HM⟩:=h.dL x
 obtain ⟨b0,b1,b2,b3,b4,b5,b6⟩:=aF HX.o
 rw [HOP.o] at b0
 clear h
 obtain ⟨gd,cd,ga,ca,g1,c1,c2,HB,HO⟩:=HM.o.op
 clear G B h1
 have HQ:Hid (el (c.read x.z x.m x.k x.e).r.xs x.r.toNat%Pl.top x.z=(c.read x.z x.m x.k x.e).low x.z x.r):=hide rfl
 have HQ0:=Pl.fJ HG1.o HI.o.z HI.o.r0 HI.o.r1
 obtain ⟨d,hd⟩:∃d,c.read x.z x.m x.k x.e=d:=⟨_,rfl⟩
 obtain ⟨v,hv⟩:∃v,c.aY x.z x.m x.k x.e=v:=⟨_,rfl⟩
 have E:Hid (c.two x=d.two' x (d.low x.z x.r) v):=hide (by unfold Pl.Mc.two;rw [hf,hd,hv];rfl)
 have HRD:=fun w9 h9=>jJ w9 lo mid hi p g2 c x.z x.m x.k x.e h9 HG.o HI.o.z HI.o.k0 HI.o.k1 HI.o.e0 HI.o.e1 HI.o.m0 HI.o.m1
 rw [hd] at hf HG1 HQ HQ0
 rw [hv] at HV
 simp only [hd,hv] at HRD
 clear hd hv
 obtain ⟨q,hq⟩:∃q,d.low x.z x.r=q:=⟨_,rfl⟩
 rw [hq] at E HQ HQ0
 clear hq
 have HF:=hide (Pl.bG HG1.o)
 have HVQ:=hide HQ0
 have E2:Hid (d.two' x q v=(d.aB (Pl.gz x.z 0 q v)).put x.z x.r (Pl.kR x.z 0 q v)):=hide (by unfold Pl.Mc.two';rw [HOP.o];rfl)
 have HVV:Hid (Pl.okv x.z (Pl.kR x.z 0 q v)=true):=hide (Pl.mQ HI.o.z)
 have HGF:=hide (HG1.o.aB (v:=Pl.gz x.z 0 q v) (Pl.lC x.z 0 q v).1 (Pl.lC x.z 0 q v).2).g
 go_enter func86,ntmps86
 go_wp2_with (first|(go_at_call 72;refine (HRD _ HM.o).mono ?_;rintro e9 W_1 ⟨rfl,aT,hm9,hb9⟩;obtain ⟨bg,bY,bI⟩:=hb9.nx HX HHB HGB HS;clear hb9;have aW:=hide hm9;obtain ⟨bQ,bU,bT,bV,eu,eP,eG,aX,bu⟩:=hm9.op;obtain ⟨lT,kX,oD,kC,oC,oz,ou,oh⟩:=aX.o.c8;clear b0 b1 b2 b3 b4 b5 b6;obtain ⟨b0,b1,b2,b3,b4,b5,b6⟩:=aF bg.o;rw [HOP.o] at b0)|(go_at_call 41;refine st (bK _ lo mid hi p aT _ aW.o) ?_;rw [hf]))
 have HD:=hide (bu.o.any (ae (Kept.refl 0 0 W_1))).d
 have S1D:=cellsS (aX.o.any (ae (Kept.refl 0 0 W_1))) (bg.o.af (ae (Kept.refl 0 0 W_1)))
 go_region_held3 (fun w'=>w'.cell? ⟨p,0,none⟩=some (.slice (some ⟨bQ,0,none⟩) 4 bU)∧w'.cell? ⟨p,1,none⟩=some (.slice (some ⟨bT,0,none⟩) 4 bV)∧w'.cell? ⟨p,2,none⟩=some (iv d.r.o)∧w'.cell? ⟨p,3,none⟩=some (iv d.r.p)∧w'.cell? ⟨p,4,none⟩=some (iv d.r.f)∧w'.cell? ⟨p,5,none⟩=some (iv d.r.m)∧w'.cell? ⟨p,6,none⟩=some (.bool d.r.s)∧w'.cell? ⟨p,7,none⟩=some (.bool d.r.t)∧w'.cell? ⟨w.heap.size,1,none⟩=some (iv x.z)∧w'.cell? ⟨w.heap.size,2,none⟩=some (iv x.r)) (first|with_reducible exact S1D|with_reducible exact cellsS aN.o dM.o|go_keep) (first|(go_at_call 74;refine (wG _ bQ bU bT bV d.r x.z x.r HD.o HG1.o.g HI.o.z HI.o.r0 HI.o.r1).mono ?_;rw [HQ.o];rintro e9 W_2 ⟨rfl,hk9⟩;have K2:=hide ((ae (Kept.refl 0 0 W_1)).trans hk9);clear hk9;have gZ:=hide (aW.o.any K2.o);have aN:=hide (aX.o.any K2.o);have iq:=hide (bu.o.any K2.o);have dM:=hide (bg.o.af K2.o);have gX:=hide (bI.o.any K2.o);obtain ⟨xB,xA,xy,uN,sD,xx,xw,xu,rZ,rY,mM,mJ,mG,mF,mD,mi⟩:=aN.o.cells;clear rZ rY mM mJ mG mF mD mi;have yx:=aN.o.frozen 0;have yw:=aN.o.frozen 1;have yu:=aN.o.frozen 2;have vP:=aN.o.frozen 3;have tu:=aN.o.frozen 4;have yt:=aN.o.frozen 5;have yl:=aN.o.frozen 6;have yj:=aN.o.frozen 7;clear b0 b1 b2 b3 b4 b5 b6;obtain ⟨b0,b1,b2,b3,b4,b5,b6⟩:=aF dM.o;rw [HOP.o] at b0;clear lT kX oD kC oC oz ou oh))
 go_wp2_with ((go_at_call 118;refine st (xR _ _ _ _ _ (Pl.uM HVQ.o HV.o)) ?_))
 have HBY:=hide ((aN.o.cF (Pl.gz x.z 0 q v)).any (ae (Kept.refl 0 0 (W_2.setCell ⟨p,4,none⟩ (iv (Pl.gz x.z 0 q v))))))
 have HOY:=hide ((iq.o.own (ak _ p 4 (iv (Pl.gz x.z 0 q v)))).any (ae (Kept.refl 0 0 (W_2.setCell ⟨p,4,none⟩ (iv (Pl.gz x.z 0 q v))))))
 have HSY:=hide ((gX.o.set p 4 (iv (Pl.gz x.z 0 q v)) HPH.o).drew)
 have HXY:=hide ((dM.o.other p 4 (iv (Pl.gz x.z 0 q v)) (by have:=HPB.o;omega)).af (ae (Kept.refl 0 0 (W_2.setCell ⟨p,4,none⟩ (iv (Pl.gz x.z 0 q v))))))
 have HRY:=hide (MO.reg (r:=(d.aB (Pl.gz x.z 0 q v)).r) HOY.o)
 have HMY:Hid (mid≤(W_2.setCell ⟨p,4,none⟩ (iv (Pl.gz x.z 0 q v))).drew.heap.size):=hide (Nat.le_trans HMH.o HOY.o.hh)
 have HPM:=HOY.o.p0
 have HNM:Hid (¬(lo≤w.heap.size∧w.heap.size<mid)):=hide (by have:=HHB.o;have:=HMH.o;omega)
 have HNP:Hid (¬(p≤w.heap.size∧w.heap.size<p+1)):=hide (by have:=HPB.o;omega)
 have SYD:=cellsS HBY.o HXY.o
 go_region_held3 (fun w'=>w'.cell? ⟨p,0,none⟩=some (.slice (some ⟨bQ,0,none⟩) 4 bU)∧w'.cell? ⟨p,1,none⟩=some (.slice (some ⟨bT,0,none⟩) 4 bV)∧w'.cell? ⟨p,2,none⟩=some (iv (d.aB (Pl.gz x.z 0 q v)).r.o)∧w'.cell? ⟨p,3,none⟩=some (iv (d.aB (Pl.gz x.z 0 q v)).r.p)∧w'.cell? ⟨p,4,none⟩=some (iv (d.aB (Pl.gz x.z 0 q v)).r.f)∧w'.cell? ⟨p,5,none⟩=some (iv (d.aB (Pl.gz x.z 0 q v)).r.m)∧w'.cell? ⟨p,6,none⟩=some (.bool (d.aB (Pl.gz x.z 0 q v)).r.s)∧w'.cell? ⟨p,7,none⟩=some (.bool (d.aB (Pl.gz x.z 0 q v)).r.t)∧w'.cell? ⟨w.heap.size,1,none⟩=some (iv x.z)∧w'.cell? ⟨w.heap.size,2,none⟩=some (iv x.r)) (first|with_reducible exact SYD|with_reducible exact cellsS aG.o jd.o|exact cellsS (aG.o.laid (Pl.jr (d.aB (Pl.gz x.z 0 q v)).r x.z x.r (Pl.kR x.z 0 q v))) (Blk.kept jd.o (MB.jb _ _ _ _ _ _ _ _) HNP.o)|go_keep) (first|(go_at_call 79;refine (qH _ lo mid bQ bU bT bV (d.aB (Pl.gz x.z 0 q v)).r x.z x.r (Pl.kR x.z 0 q v) HRY.o HMY.o HGF.o HI.o.r0 HI.o.r1 HVV.o).mono ?_;unfold iK;rintro e9 W_9 ⟨rfl,hr9,hk9⟩;have jU:=hide (HOY.o.regs hr9 hk9);have aG:=hide (HBY.o.regs hk9 HPM);have jd:=hide (Blk.kept HXY.o hk9 HNM.o);have jT:=hide (HSY.o.ai hk9 (Nat.le_refl _) HMH.o);clear hr9 hk9;obtain ⟨u0,u1,u2,u3,u4,u5,u6,u7,_⟩:=aG.o.cells;have f0:=aG.o.frozen 0;have f1:=aG.o.frozen 1;have f2:=aG.o.frozen 2;have f3:=aG.o.frozen 3;have f4:=aG.o.frozen 4;have f5:=aG.o.frozen 5;have f6:=aG.o.frozen 6;have f7:=aG.o.frozen 7))
 go_wp2_with fail
 first|go_end0|refine bodyPost_ret (results_none rfl _ _ _) rfl ?_
 exact ⟨rfl,aT,by rw [E.o,E2.o];exact MAt.laid aG.o jU.o,fG jT.o HPH.o _ _ _ _ _ _ _ _⟩
end Go.Proofs.YtblddehlkaolbaaGreatDoor
