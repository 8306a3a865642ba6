/- Part 6 of what the last text leans on. -/
import Derived.Test.YtkkmnnhaailkcaaGreatDoorJA5
set_option maxRecDepth 100000
set_option maxHeartbeats 16000000
namespace Go.Proofs.YtkkmnnhaailkcaaGreatDoor
open Go.RowKit Go.Proofs.Tryz
set_option linter.unusedVariables false
theorem JJ (z:Int) (hz:z=1∨z=2) (w:World):Calls prog 143 #[iv z] w fun e w'=>e=.returned (iv (Pl.top z))∧w'=w:=by
 rcases hz with rfl|rfl
 ·exact iV w
 ·exact iU w
theorem wF (w:World) (gd cd ga ca:Nat) (r:Pl.Rg) (z k:Int) (hD:Own w gd r.xs) (hg:Pl.Good r) (hz:z=1∨z=2) (k0:0≤k) (k1:k≤3) :
  Calls prog 105 #[iK r gd cd ga ca,iv z,iv k] w fun e w'=>e=.returned (iv (el r.xs k.toNat%Pl.top z))∧Kept 0 0 w w':=by
 obtain ⟨n,rfl⟩:∃n:Nat,k=(n:Int):=⟨k.toNat,by omega⟩
 have hn:n<4:=by omega
 have k4:(n:Int)<4:=by omega
 have hA:=jH (hD.ai (kept_alloc w (.cells #[.slice (some ⟨gd,0,none⟩) 4 cd,.slice (some ⟨ga,0,none⟩) 4 ca,iv r.o,iv r.p,iv r.f,iv r.m,.bool r.s,.bool r.t] 31)) (by omega)) n (by rw [hg.d4];omega)
 obtain ⟨hc,_⟩:=hA
 have HE:Hid (bits .and .i64 (el r.xs n) (Pl.top z-1)=el r.xs n%Pl.top z):=hide (by
  rcases hz with rfl|rfl
  ·exact Pl.dK _
  ·exact Pl.fU _)
 have HT:=JJ z hz
 have hT:256≤Pl.top z∧Pl.top z≤65536:=by rcases hz with rfl|rfl<;>decide
 obtain ⟨hT0,hT1⟩:=hT
 have hK:=hide (kept_alloc w (.cells #[.slice (some ⟨gd,0,none⟩) 4 cd,.slice (some ⟨ga,0,none⟩) 4 ca,iv r.o,iv r.p,iv r.f,iv r.m,.bool r.s,.bool r.t] 31))
 have hg4:=Blk.lt (Blk.new w #[.slice (some ⟨gd,0,none⟩) 4 cd,.slice (some ⟨ga,0,none⟩) 4 ca,iv r.o,iv r.p,iv r.f,iv r.m,.bool r.s,.bool r.t] 31)
 clear hD hg hg4
 unfold iK
 generalize Pl.top z=T at *
 clear hz
 go_enter func105,ntmps105
 go_wp2_with fail
 go_region_with (go_at_call 143;refine st (HT _) ?_)
 all_goals
  go_wp2_with fail
  go_ret
  exact ⟨rI (by rw [IntKind.wrap_i64,show (T-1+9223372036854775808)%18446744073709551616-9223372036854775808=T-1 by omega];exact HE.o),ae hK.o⟩
theorem Ja (w:World) (lo mid hi p g2:Nat) (c:Pl.Mc) (v:Int) (h:MAt w lo mid hi p g2 c) :
  Calls prog 150 #[.pointer (some ⟨p,0,none⟩),iv v] w fun e w'=>e=.returned (.tuple #[])∧∃g3,MAt w' lo mid hi p g3 (c.raise v)∧Since w lo hi g2 w' g3:=by
 have hl:=h.lo
 have HM:=hide h
 obtain ⟨gd,cd,ga,ca,g1,c1,c2,HB,HO⟩:=h.op
 have t3:=HB.o.k3
 have t11:=HB.o.k11
 have t12:=HB.o.k12
 have f11:=HB.o.frozen 11
 have f12:=HB.o.frozen 12
 go_enter func150,ntmps150
 go_wp2_with fail
 go_end0
 have hp:=HO.o.p0
 have hd:=HO.o.d0
 have hd1:=HO.o.d1
 have KK:=(ak w p 11 (iv v)).one 12 (iv c.r.p)
 have hq:(lo≤p∧p<hi)∨w.heap.size≤p:=by have:=HO.o.p1;omega
 exact ⟨rfl,g2,⟨gd,cd,ga,ca,g1,c1,c2,(HB.o.cV v).cPc c.r.p,HO.o.own KK⟩,((Since.refl _ _ _ _).set p 11 _ hq).set p 12 _ hq⟩
theorem gG {z f v:Int} (w:World) (hv:Pl.okv z v=true) (hf:Pl.flags f=true):Calls prog 107 #[iv z,iv f,iv v] w fun e w'=>e=.returned (iv (Pl.aQ z f v))∧w'=w:=by
 have e:Pl.aQ z f v=bits .or .i64 (bits .and .i64 f 16) (bits .or .i64 (Pl.fl (v==0) 4) (Pl.fl (decide (Pl.sg z v<0)) 8)):=by unfold Pl.aQ;rw [hv,hf];rfl
 rw [e]
 exact Ot z f v w hv
theorem Du (w:World) (lo mid hi p g2:Nat) (c:Pl.Mc) (z k v:Int) (h:MAt w lo mid hi p g2 c) (G:Pl.GM c) (k0:0≤k) (k1:k≤3) (hv:Pl.okv z v=true) :
  Calls prog 152 #[.pointer (some ⟨p,0,none⟩),iv z,iv k,iv v] w fun e w'=>e=.returned (.tuple #[])∧∃g3,MAt w' lo mid hi p g3 (c.data z k v)∧Since w lo hi g2 w' g3:=by
 have hl:=h.lo
 have HF:=hide (Pl.bG G)
 have HG:=hide ((G.aB (Pl.dX z c.r.f v hv (Pl.bG G)).1 (Pl.dX z c.r.f v hv (Pl.bG G)).2).g)
 have HM:=hide h
 obtain ⟨gd,cd,ga,ca,g1,c1,c2,HB,HO⟩:=h.op
 obtain ⟨t0,t1,t2,t3,t4,t5,t6,t7⟩:=HB.o.c8
 have f0:=HB.o.fz
 have hp:=HO.o.p0
 have hd:=HO.o.d0
 have hd1:=HO.o.d1
 have hs:=HB.o.lt
 have K1:=hide (ak w p 4 (iv (Pl.aQ z c.r.f v)))
 have HO1:=hide (HO.o.own K1.o)
 have HB1:=hide (HB.o.cF (Pl.aQ z c.r.f v))
 clear G
 go_enter func152,ntmps152
 go_wp2_with (first|(go_at_call 107;refine st (gG _ hv HF.o) ?_)|(go_at_call 110;refine (qG _ lo mid gd cd ga ca {c.r with f:=Pl.aQ z c.r.f v} z k v (MO.reg (r:={c.r with f:=Pl.aQ z c.r.f v}) HO1.o) (by simp;omega) HG.o k0 k1 hv).mono ?_;unfold iK;rintro e9 W ⟨rfl,hr9,hk9⟩;have HO2:=hide (HO1.o.regs hr9 hk9);have HB2:=hide (HB1.o.regs hk9 hp);have HK2:=hide hk9;clear hr9 hk9 t0 t1 t2 t3 t4 t5 t6 t7 f0;obtain ⟨t0,t1,t2,t3,t4,t5,t6,t7,_⟩:=HB2.o.cells;have f0:=HB2.o.frozen 0;have f1:=HB2.o.frozen 1;have f2:=HB2.o.frozen 2;have f3:=HB2.o.frozen 3;have f4:=HB2.o.frozen 4;have f5:=HB2.o.frozen 5;have f6:=HB2.o.frozen 6;have f7:=HB2.o.frozen 7))
 go_end0
 have hq:(lo≤p∧p<hi)∨w.heap.size≤p:=by have:=HO.o.p1;omega
 have hm9:=HO.o.p1
 exact ⟨rfl,g2,MAt.laid HB2.o HO2.o,fG (((Since.refl w lo hi g2).set p 4 _ hq).ai HK2.o (Nat.le_refl _) (by omega)) hq _ _ _ _ _ _ _ _⟩
theorem xO (w:World) (lo mid hi p g2:Nat) (c:Pl.Mc) (z m k x a v:Int) (h:MAt w lo mid hi p g2 c) (G:Pl.GM c) (k0:0≤k) (k1:k≤3) (a0:0≤a) (a1:a≤65535) (hv:Pl.okv z v=true) :
  Calls prog 106 #[.pointer (some ⟨p,0,none⟩),iv z,.agg #[iv m,iv k,iv x],iv a,iv v] w fun e w'=>e=.returned (.tuple #[])∧∃g3,MAt w' lo mid hi p g3 (c.write z m k a v)∧Since w lo hi g2 w' g3:=by
 have hl:=h.lo
 cases hm:(m==0)
 ·have KA:=hide (kept_alloc w (.cells #[iv m,iv k,iv x] 107))
  have E:Hid (c.write z m k a v=c.acc 2 z a v):=hide (by unfold Pl.Mc.write;rw [hm];rfl)
  have HM1:=hide (h.any KA.o)
  have HG:=hide G
  have HA:Hid (Pl.fQ 2 z a v=true):=hide (by simp [Pl.fQ,Pl.dY,Pl.addr,hv];omega)
  clear G h
  go_enter func106,ntmps106
  go_wp2_with (go_at_call 82;refine (gW _ lo mid hi p g2 c 2 z a v HM1.o HG.o HA.o).mono ?_;rintro e9 W ⟨rfl,g3,hm9,hb9⟩;have HM2:=hide hm9;have HL2:=hide hb9;clear hm9 hb9)
  go_end0
  exact ⟨rfl,g3,by rw [E.o];exact HM2.o,((Since.refl w lo hi g2).any KA.o).trans HL2.o⟩
 ·have E:Hid (c.write z m k a v=c.dh (Pl.jr c.r z k v)):=hide (by unfold Pl.Mc.write;rw [hm];rfl)
  have HG:=hide G.g
  have KA:=hide (kept_alloc w (.cells #[iv m,iv k,iv x] 107))
  have BA:=Blk.new w #[iv m,iv k,iv x] 107
  obtain ⟨X,hX⟩:∃X:World,w.alloc (.cells #[iv m,iv k,iv x] 107)=X:=⟨_,rfl⟩
  rw [hX] at KA BA
  have b0:=BA.all
  have hbw:=BA.lt
  have h2:=h.any KA.o
  have hl2:=h2.lo
  clear h BA
  have HM:=hide h2
  obtain ⟨gd,cd,ga,ca,g1,c1,c2,HB,HO⟩:=h2.op
  obtain ⟨t0,t1,t2,t3,t4,t5,t6,t7⟩:=HB.o.c8
  have f0:=HB.o.fz
  have hp:=HO.o.p0
  have hd:=HO.o.d0
  have hd1:=HO.o.d1
  have hs:=HB.o.lt
  have HMH:Hid (mid≤hi):=hide (by have:=HO.o.p1;omega)
  have HPH:Hid (lo≤p∧p<hi):=hide (by have:=HO.o.p1;omega)
  have HRD:=hide (MO.reg (r:=c.r) (HO.o.any (ae (Kept.refl 0 0 X))))
  have HOD:=hide (HO.o.any (ae (Kept.refl 0 0 X)))
  have HBD:=hide (HB.o.any (ae (Kept.refl 0 0 X)))
  have HMD:Hid (mid≤X.drew.heap.size):=hide hl2.2.1
  clear G
  go_enter func106,ntmps106
  go_wp2_with fail
  go_region_with (go_at_call 110;refine (qG _ lo mid gd cd ga ca c.r z k v HRD.o HMD.o HG.o k0 k1 hv).mono ?_;unfold iK;rintro e9 W ⟨rfl,hr9,hk9⟩;have HO2:=hide (HOD.o.regs hr9 hk9);have HB2:=hide (HBD.o.regs hk9 hp);have HK2:=hide hk9;clear hr9 hk9;clear t0 t1 t2 t3 t4 t5 t6 t7 f0;obtain ⟨t0,t1,t2,t3,t4,t5,t6,t7,_⟩:=HB2.o.cells;have f0:=HB2.o.frozen 0;have f1:=HB2.o.frozen 1;have f2:=HB2.o.frozen 2;have f3:=HB2.o.frozen 3;have f4:=HB2.o.frozen 4;have f5:=HB2.o.frozen 5;have f6:=HB2.o.frozen 6;have f7:=HB2.o.frozen 7)
  all_goals
   go_wp2_with fail
   first|go_end0|refine bodyPost_ret (results_none rfl _ _ _) rfl ?_
   exact ⟨rfl,g2,by rw [E.o];exact MAt.laid HB2.o HO2.o,fG (((Since.refl w lo hi g2).any KA.o).drew.ai HK2.o (Nat.le_refl _) HMH.o) (.inl HPH.o) _ _ _ _ _ _ _ _⟩
theorem sQ (w:World) (lo mid hi p g2:Nat) (c:Pl.Mc) (z m k x:Int) (h:MAt w lo mid hi p g2 c) (G:Pl.GM c) (k0:0≤k) (k1:k≤3) (x0:0≤x) (x1:x≤65535) (hm1:m=0∨m=2∨m=3∨m=4∨m=5∨m=6) :
  Calls prog 104 #[.pointer (some ⟨p,0,none⟩),iv z,.agg #[iv m,iv k,iv x]] w fun e w'=>e=.returned (iv (c.iL z m k x))∧∃g3,MAt w' lo mid hi p g3 (c.place z m k x)∧Since w lo hi g2 w' g3:=by
 have hl:=h.lo
 cases hm:(m==0)
 ·have hm2:m=2∨m=3∨m=4∨m=5∨m=6:=by simp at hm;omega
  have HG:=hide G
  have KA:=hide (kept_alloc w (.cells #[iv m,iv k,iv x] 107))
  have BA:=Blk.new w #[iv m,iv k,iv x] 107
  obtain ⟨X,hX⟩:∃X:World,w.alloc (.cells #[iv m,iv k,iv x] 107)=X:=⟨_,rfl⟩
  rw [hX] at KA BA
  have b0:=BA.all
  have hbw:=BA.lt
  have h2:=h.any KA.o
  have hl2:=h2.lo
  clear h BA
  have HM:=hide h2
  obtain ⟨gd,cd,ga,ca,g1,c1,c2,HB,HO⟩:=h2.op
  obtain ⟨t0,t1,t2,t3,t4,t5,t6,t7⟩:=HB.o.c8
  have f0:=HB.o.fz
  have hp:=HO.o.p0
  have hd:=HO.o.d0
  have hd1:=HO.o.d1
  have hs:=HB.o.lt
  have HMH:Hid (mid≤hi):=hide (by have:=HO.o.p1;omega)
  have HPH:Hid (lo≤p∧p<hi):=hide (by have:=HO.o.p1;omega)
  have HRD:=hide (MO.reg (r:=c.r) (HO.o.any (ae (Kept.refl 0 0 X))))
  have HOD:=hide (HO.o.any (ae (Kept.refl 0 0 X)))
  have HBD:=hide (HB.o.any (ae (Kept.refl 0 0 X)))
  have HMD:Hid (mid≤X.drew.heap.size):=hide hl2.2.1
  have KZ:Kept 0 0 X (X.drew.alloc (.cells #[.slice none 0 0,.slice none 0 0,iv 0,iv 0,iv 0,iv 0,.bool false,.bool false] 31)):=ah (ae (Kept.refl 0 0 X)) _
  have HRZ:=hide (MO.reg (r:=c.r) (HO.o.any KZ))
  have HOZ:=hide (HO.o.any KZ)
  have HBZ:=hide (HB.o.any KZ)
  have HMZ:Hid (mid≤(X.drew.alloc (.cells #[.slice none 0 0,.slice none 0 0,iv 0,iv 0,iv 0,iv 0,.bool false,.bool false] 31)).heap.size):=hide (by rw [World.size_alloc];exact Nat.le_trans hl2.2.1 (Nat.le_succ _))
  have BZ:Hid (Blk (X.drew.alloc (.cells #[.slice none 0 0,.slice none 0 0,iv 0,iv 0,iv 0,iv 0,.bool false,.bool false] 31)) X.heap.size #[.slice none 0 0,.slice none 0 0,iv 0,iv 0,iv 0,iv 0,.bool false,.bool false] 31):=hide (Blk.new X.drew #[.slice none 0 0,.slice none 0 0,iv 0,iv 0,iv 0,iv 0,.bool false,.bool false] 31)
  have HKZ:=hide KZ
  have hb1:=HO.o.b.lt (by rw [HG.o.bx];decide)
  have hb2:=HO.o.g2.2
  clear KZ
  have HP:=fun (w9:World) (hr:fZ w9 lo mid c.r (some ⟨gd,0,none⟩) (some ⟨ga,0,none⟩)) (hh:mid≤w9.heap.size)=>Ig w9 lo mid gd cd ga ca c.r z m k x hr hh HG.o.g k0 k1 x0 x1 hm2
  obtain ⟨R,hR⟩:∃R,Pl.cZ c.r z m k x=R:=⟨_,rfl⟩
  obtain ⟨V,hV⟩:∃V,Pl.bZ c.r z m k x=V:=⟨_,rfl⟩
  simp only [hR,hV,iK] at HP
  have E:Hid (c.place z m k x=c.dh R):=hide (by unfold Pl.Mc.place Pl.Mc.plc;rw [hm,hR];rfl)
  have E2:Hid (c.iL z m k x=V):=hide (by unfold Pl.Mc.iL;rw [hm,hV];rfl)
  clear hR hV
  have HNZ:Hid (¬(lo≤X.heap.size∧X.heap.size<mid)):=hide (by have q:=hl2.2.1;omega)
  have HPZ:Hid (p<X.heap.size):=hide hs
  clear G hm1
  go_enter func104,ntmps104
  go_wp2_with fail
  go_region_with (first|(go_at_call 142;refine (HP _ HRD.o HMD.o).mono ?_;rintro e9 W ⟨rfl,hr9,hk9⟩;have HO2:=hide (HOD.o.regs hr9 hk9);have HB2:=hide (HBD.o.regs hk9 hp);have HK2:=hide hk9;have HA1:=hide hk9;have hpW:=HB2.o.lt;clear hr9 hk9;clear t0 t1 t2 t3 t4 t5 t6 t7 f0;obtain ⟨t0,t1,t2,t3,t4,t5,t6,t7,_⟩:=HB2.o.cells;have f0:=HB2.o.frozen 0;have f1:=HB2.o.frozen 1;have f2:=HB2.o.frozen 2;have f3:=HB2.o.frozen 3;have f4:=HB2.o.frozen 4;have f5:=HB2.o.frozen 5;have f6:=HB2.o.frozen 6;have f7:=HB2.o.frozen 7)|(go_at_call 142;refine (HP _ HRZ.o HMZ.o).mono ?_;rintro e9 W ⟨rfl,hr9,hk9⟩;have HO2:=hide (HOZ.o.regs hr9 hk9);have HB2:=hide (HBZ.o.regs hk9 hp);have HK2:=hide hk9;have HA2:=hide hk9;have BZ2:=hide (Blk.kept BZ.o hk9 HNZ.o);clear hr9 hk9;clear t0 t1 t2 t3 t4 t5 t6 t7 f0;obtain ⟨t0,t1,t2,t3,t4,t5,t6,t7,_⟩:=HB2.o.cells;have f0:=HB2.o.frozen 0;have f1:=HB2.o.frozen 1;have f2:=HB2.o.frozen 2;have f3:=HB2.o.frozen 3;have f4:=HB2.o.frozen 4;have f5:=HB2.o.frozen 5;have f6:=HB2.o.frozen 6;have f7:=HB2.o.frozen 7;have y0:=BZ2.o.cell (i:=0) rfl;have v0:=BZ2.o.frozen 0;have y1:=BZ2.o.cell (i:=1) rfl;have v1:=BZ2.o.frozen 1;have y2:=BZ2.o.cell (i:=2) rfl;have v2:=BZ2.o.frozen 2;have y3:=BZ2.o.cell (i:=3) rfl;have v3:=BZ2.o.frozen 3;have y4:=BZ2.o.cell (i:=4) rfl;have v4:=BZ2.o.frozen 4;have y5:=BZ2.o.cell (i:=5) rfl;have v5:=BZ2.o.frozen 5;have y6:=BZ2.o.cell (i:=6) rfl;have v6:=BZ2.o.frozen 6;have y7:=BZ2.o.cell (i:=7) rfl;have v7:=BZ2.o.frozen 7))
  all_goals
   go_wp2_with fail
   go_ret
   rw [E.o]
   first
    | (have z9:=HA1;exact ⟨rI E2.o.symm,g2,(MAt.laid HB2.o HO2.o).any (kept_alloc _ _),(fG (((Since.refl w lo hi g2).any KA.o).drew.ai HK2.o (Nat.le_refl _) HMH.o) (.inl HPH.o) _ _ _ _ _ _ _ _).alloc _⟩)
    | (have z9:=HA2;exact ⟨rI E2.o.symm,g2,MAt.laid (HB2.o.past (MB.jb _ _ _ _ _ _ _ _) HPZ.o) (HO2.o.past (MB.jb _ _ _ _ _ _ _ _) hl2.2.1 hb1 hb2),fG (fG ((((Since.refl w lo hi g2).any KA.o).any HKZ.o).ai HK2.o (Nat.le_refl _) HMH.o) (.inr KA.o.size) _ _ _ _ _ _ _ _) (.inl HPH.o) _ _ _ _ _ _ _ _⟩)
 ·have KA:=hide (kept_alloc w (.cells #[iv m,iv k,iv x] 107))
  have E:Hid (c.place z m k x=c):=hide (by unfold Pl.Mc.place;rw [hm];rfl)
  have E2:Hid (c.iL z m k x=0):=hide (by unfold Pl.Mc.iL;rw [hm];rfl)
  have HM:=hide (h.any KA.o)
  clear h G
  go_enter func104,ntmps104
  go_wp2_with fail
  go_ret
  exact ⟨rI E2.o.symm,g2,by rw [E.o];exact HM.o,(Since.refl w lo hi g2).any KA.o⟩
end Go.Proofs.YtkkmnnhaailkcaaGreatDoor
