/- Part 4 of what the last text leans on. -/
import Derived.Test.YtkkmnnhaailkcaaGreatDoorJB3
import Derived.Test.YtkkmnnhaailkcaaGreatDoorJB1
import Derived.Test.YtkkmnnhaailkcaaGreatDoorJB2
import Derived.Deep.DeepCutAuto
set_option maxRecDepth 100000
set_option maxHeartbeats 16000000
namespace Go.Proofs.YtkkmnnhaailkcaaGreatDoor
open Go.RowKit Go.Proofs.Tryz
set_option linter.unusedVariables false
theorem LG (s f a b:Int) (w:World) (la : -9223372036854775808≤a) (ha:a≤9223372036854775807) (lb : -9223372036854775808≤b) (hb:b≤9223372036854775807) :
  Calls prog 222 #[iv s,iv f,iv a,iv b] w fun e w'=>e=.returned (.tuple #[iv (Pl.oK s f a b),.bool (Pl.two s 0 a b&&Pl.flags f)])∧w'=w:=by
 cases k:Pl.two s 0 a b
 ·have HV:Hid (Pl.oK s f a b=0):=hide (by simp [Pl.oK,k])
  go_enter func222,ntmps222
  go_wp2_with fail
  refine (oW s 0 a b _ la ha lb hb).mono ?_
  rintro e w' ⟨rfl,rfl⟩
  go_wp2_with fail
  go_ret2
  exact ⟨rIB HV.o.symm rfl,rfl⟩
 ·cases kf:Pl.flags f
  ·have HV:Hid (Pl.oK s f a b=0):=hide (by simp [Pl.oK,kf])
   go_enter func222,ntmps222
   go_wp2_with fail
   refine (oW s 0 a b _ la ha lb hb).mono ?_
   rintro e w' ⟨rfl,rfl⟩
   go_wp2_with fail
   refine (uP f _).mono ?_
   rintro e w' ⟨rfl,rfl⟩
   go_wp2_with fail
   go_ret2
   exact ⟨rIB HV.o.symm rfl,rfl⟩
  ·have HV:Hid (Pl.oK s f a b=bits .or .i64 (bits .andNot .i64 (Pl.gJ s 0 a b) 16) (bits .and .i64 f 16)):=hide (by simp only [Pl.oK,k,kf,Bool.and_self,if_true,Pl.MJ _ (Pl.lI s 0 a b).1 (Pl.lI s 0 a b).2])
   go_enter func222,ntmps222
   go_wp2_with fail
   refine (oW s 0 a b _ la ha lb hb).mono ?_
   rintro e w' ⟨rfl,rfl⟩
   go_wp2_with fail
   refine (uP f _).mono ?_
   rintro e w' ⟨rfl,rfl⟩
   go_wp2_with fail
   go_ret2
   exact ⟨rIB HV.o.symm rfl,rfl⟩
theorem yh (s x a b:Int) (w:World) (h:Pl.two s x a b=true) :
  Calls prog 145 #[iv s,iv x,iv a,iv b] w fun e w'=>e=.returned (.tuple #[iv (Pl.kV s x a b),iv (Pl.gJ s x a b)])∧w'=w:=by
 have HV:Pl.kV s x a b=(a-b-x)%Pl.top s:=by simp [Pl.kV,h]
 have HF:Pl.gJ s x a b=Pl.iM s (a-b-x) (Pl.sg s a-Pl.sg s b-x):=by simp [Pl.gJ,h]
 rw [HV,HF]
 obtain ⟨ka,kb,kx⟩:=Pl.AV h
 obtain ⟨hs,a0,a1⟩:=Pl.aQ ka
 obtain ⟨_,b0,b1⟩:=Pl.aQ kb
 obtain ⟨x0,x1⟩:=Pl.ui kx
 rcases hs with ⟨rfl,_⟩|⟨rfl,_⟩
 ·exact Tz x a b w a0 a1 b0 b1 x0 x1
 ·exact Tv x a b w a0 a1 b0 b1 x0 x1
theorem Wh (s f a b:Int) (w:World) (h:Pl.two s 0 a b=true) :
  Calls prog 158 #[iv s,iv f,iv a,iv b] w fun e w'=>e=.returned (iv (bits .or .i64 (bits .and .i64 (Pl.gJ s 0 a b) 15) (bits .and .i64 f 16)))∧w'=w:=by
 go_enter func158,ntmps158
 go_wp2_with fail
 refine (yh s 0 a b _ h).mono ?_
 rintro e w' ⟨rfl,rfl⟩
 go_wp2_with fail
 go_ret
 exact ⟨rfl,rfl⟩
theorem jk (s f v:Int) (w:World) (lv : -9223372036854775808≤v) (hv:v≤9223372036854775807) :
  Calls prog 225 #[iv s,iv f,iv v] w fun e w'=>e=.returned (.tuple #[iv (Pl.aS s f v),.bool (Pl.okv s v&&Pl.flags f)])∧w'=w:=by
 cases k:Pl.okv s v
 ·have HV:Hid (Pl.aS s f v=0):=hide (by simp [Pl.aS,k])
  go_enter func225,ntmps225
  go_wp2_with fail
  refine (dG s v _ lv hv).mono ?_
  rintro e w' ⟨rfl,rfl⟩
  go_wp2_with fail
  go_ret2
  exact ⟨rIB HV.o.symm rfl,rfl⟩
 ·cases kf:Pl.flags f
  ·have HV:Hid (Pl.aS s f v=0):=hide (by simp [Pl.aS,kf])
   go_enter func225,ntmps225
   go_wp2_with fail
   refine (dG s v _ lv hv).mono ?_
   rintro e w' ⟨rfl,rfl⟩
   go_wp2_with fail
   refine (uP f _).mono ?_
   rintro e w' ⟨rfl,rfl⟩
   go_wp2_with fail
   go_ret2
   exact ⟨rIB HV.o.symm rfl,rfl⟩
  ·have HV:Hid (Pl.aS s f v=bits .or .i64 (Pl.iM s v (Pl.pI s v)) (bits .and .i64 f 16)):=hide (by
    simp only [Pl.aS,k,kf,Bool.and_self,if_true,Pl.lM k,Pl.keptSelf k];rw [Pl.or_comm])
   have hs:s=1∨s=2:=by have:=Pl.aQ k;omega
   go_enter func225,ntmps225
   go_wp2_with fail
   refine (dG s v _ lv hv).mono ?_
   rintro e w' ⟨rfl,rfl⟩
   go_wp2_with fail
   refine (uP f _).mono ?_
   rintro e w' ⟨rfl,rfl⟩
   go_wp2_with fail
   refine (sH s _ _ _ hs).mono ?_
   rintro e w' ⟨rfl,rfl⟩
   go_wp2_with fail
   go_ret2
   exact ⟨rIB HV.o.symm rfl,rfl⟩
theorem Tu (s v:Int) (w:World) (h:Pl.okv s v=true) :
  Calls prog 144 #[iv s,iv v] w fun e w'=>e=.returned (iv (bits .or .i64 (Pl.fl (v==0) 4) (Pl.fl (decide (Pl.sg s v<0)) 8)))∧w'=w:=by
 obtain ⟨hs,h0,h1⟩:=Pl.aQ h
 rcases hs with ⟨rfl,_⟩|⟨rfl,_⟩
 ·rw [←Pl.VQ h0 h1];exact ou v w
 ·rw [←Pl.VP h0 h1];exact oh v w
theorem OJ (s f v:Int) (w:World) (h:Pl.okv s v=true) :
  Calls prog 107 #[iv s,iv f,iv v] w fun e w'=>e=.returned (iv (bits .or .i64 (bits .and .i64 f 16) (bits .or .i64 (Pl.fl (v==0) 4) (Pl.fl (decide (Pl.sg s v<0)) 8))))∧w'=w:=by
 go_enter func107,ntmps107
 go_wp2_with fail
 refine (Tu s v _ h).mono ?_
 rintro e w' ⟨rfl,rfl⟩
 go_wp2_with fail
 go_ret
 exact ⟨rfl,rfl⟩
theorem Cm (v:Int) (w:World) (lv : -9223372036854775808≤v) (hv:v≤9223372036854775807) :
  Calls prog 206 #[iv v] w fun e w'=>e=.returned (.tuple #[iv (Pl.ni v),.bool (Pl.okv 1 v)])∧w'=w:=by
 cases k:Pl.okv 1 v
 ·have HV:Hid (Pl.ni v=0):=hide (by simp [Pl.ni,k])
  go_enter func206,ntmps206
  go_wp2_with fail
  refine (dG 1 v _ lv hv).mono ?_
  rintro e w' ⟨rfl,rfl⟩
  go_wp2_with fail
  go_ret2
  exact ⟨rIB HV.o.symm rfl,rfl⟩
 ·have HV:Hid (Pl.ni v=Pl.sg 1 v%65536):=hide (by simp [Pl.ni,k])
  have e1:=Pl.lM k
  have hw:IntKind.u16.wrap (Pl.sg 1 v)=Pl.sg 1 v%65536:=IntKind.wrap_u16 _
  go_enter func206,ntmps206
  go_wp2_with fail
  refine (dG 1 v _ lv hv).mono ?_
  rintro e w' ⟨rfl,rfl⟩
  go_wp2_with fail
  go_ret2
  exact ⟨rIB HV.o.symm rfl,rfl⟩
theorem uZ (v:Int) (w:World) :
  Calls prog 153 #[iv v] w fun e w'=>e=.returned (.tuple #[iv (Pl.ni v),.bool (Pl.okv 1 v)])∧w'=w:=by
 cases k:Pl.okv 1 v
 ·have HV:Hid (Pl.ni v=0):=hide (by simp [Pl.ni,k])
  go_enter func153,ntmps153
  go_wp2_with fail
  refine (jZ 1 v _).mono ?_
  rintro e w' ⟨rfl,rfl⟩
  go_wp2_with fail
  go_ret2
  exact ⟨rIB HV.o.symm rfl,rfl⟩
 ·have HV:Hid (Pl.ni v=Pl.sg 1 v%65536):=hide (by simp [Pl.ni,k])
  have em:=Pl.gu (Pl.sg 1 v)
  go_enter func153,ntmps153
  go_wp2_with fail
  refine (jZ 1 v _).mono ?_
  rintro e w' ⟨rfl,rfl⟩
  go_wp2_with fail
  refine (Ce 1 v _ k).mono ?_
  rintro e w' ⟨rfl,rfl⟩
  go_wp2_with fail
  go_ret2
  exact ⟨rIB HV.o.symm rfl,rfl⟩
theorem EM (v:Int) (w:World) (lv : -9223372036854775808≤v) (hv:v≤9223372036854775807) :
  Calls prog 205 #[iv v] w fun e w'=>e=.returned (.tuple #[iv (Pl.lW v),.bool (Pl.okv 2 v)])∧w'=w:=by
 cases k:Pl.okv 2 v
 ·have HV:Hid (Pl.lW v=0):=hide (by simp [Pl.lW,k])
  go_enter func205,ntmps205
  go_wp2_with fail
  refine (dG 2 v _ lv hv).mono ?_
  rintro e w' ⟨rfl,rfl⟩
  go_wp2_with fail
  go_ret2
  exact ⟨rIB HV.o.symm rfl,rfl⟩
 ·have HV:Hid (Pl.lW v=v%256*256+v/256):=hide (by simp [Pl.lW,k])
  have h0:0≤v:=by have:=Pl.aQ k;omega
  have h1:v<65536:=by have:=Pl.aQ k;omega
  go_enter func205,ntmps205
  go_wp2_with fail
  refine (dG 2 v _ lv hv).mono ?_
  rintro e w' ⟨rfl,rfl⟩
  go_wp2_with fail
  go_ret2
  exact ⟨rIB HV.o.symm rfl,rfl⟩
theorem wL (v:Int) (w:World) :
  Calls prog 151 #[iv v] w fun e w'=>e=.returned (.tuple #[iv (Pl.lW v),.bool (Pl.okv 2 v)])∧w'=w:=by
 cases k:Pl.okv 2 v
 ·have HV:Hid (Pl.lW v=0):=hide (by simp [Pl.lW,k])
  go_enter func151,ntmps151
  go_wp2_with fail
  refine (jZ 2 v _).mono ?_
  rintro e w' ⟨rfl,rfl⟩
  go_wp2_with fail
  go_ret2
  exact ⟨rIB HV.o.symm rfl,rfl⟩
 ·have HV:Hid (Pl.lW v=v%256*256+v/256):=hide (by simp [Pl.lW,k])
  have h0:0≤v:=by have:=Pl.aQ k;omega
  have h1:v<65536:=by have:=Pl.aQ k;omega
  have em:=Pl.dP v
  have eo:=Pl.ND v h0 h1
  go_enter func151,ntmps151
  go_wp2_with fail
  refine (jZ 2 v _).mono ?_
  rintro e w' ⟨rfl,rfl⟩
  go_wp2_with fail
  go_ret2
  exact ⟨rIB HV.o.symm rfl,rfl⟩
theorem JX (z:Int) (hz:z=1∨z=2) (w:World):Calls prog 143 #[iv z] w fun e w'=>e=.returned (iv (Pl.top z))∧w'=w:=by
 rcases hz with rfl|rfl
 ·exact ja w
 ·exact iZ w
theorem wM (w:World) (gd cd ga ca:Nat) (r:Pl.Rg) (z k:Int) (hD:Own w gd r.xs) (hg:Pl.Good r) (hz:z=1∨z=2) (k0:0≤k) (k1:k≤3) :
  Calls prog 105 #[iQ r gd cd ga ca,iv z,iv k] w fun e w'=>e=.returned (iv (el r.xs k.toNat%Pl.top z))∧Kept 0 0 w w':=by
 obtain ⟨n,rfl⟩:∃n:Nat,k=(n:Int):=⟨k.toNat,by omega⟩
 have hn:n<4:=by omega
 have k4:(n:Int)<4:=by omega
 have hA:=jL (hD.ai (kept_alloc w (.cells #[.slice (some ⟨gd,0,none⟩) 4 cd,.slice (some ⟨ga,0,none⟩) 4 ca,iv r.o,iv r.p,iv r.f,iv r.m,.bool r.s,.bool r.t] 31)) (by omega)) n (by rw [hg.d4];omega)
 obtain ⟨hc,_⟩:=hA
 have HE:Hid (bits .and .i64 (el r.xs n) (Pl.top z-1)=el r.xs n%Pl.top z):=hide (by
  rcases hz with rfl|rfl
  ·exact Pl.dP _
  ·exact Pl.gu _)
 have HT:=JX z hz
 have hT:256≤Pl.top z∧Pl.top z≤65536:=by rcases hz with rfl|rfl<;>decide
 obtain ⟨hT0,hT1⟩:=hT
 have hK:=hide (kept_alloc w (.cells #[.slice (some ⟨gd,0,none⟩) 4 cd,.slice (some ⟨ga,0,none⟩) 4 ca,iv r.o,iv r.p,iv r.f,iv r.m,.bool r.s,.bool r.t] 31))
 have hg4:=Blk.lt (Blk.new w #[.slice (some ⟨gd,0,none⟩) 4 cd,.slice (some ⟨ga,0,none⟩) 4 ca,iv r.o,iv r.p,iv r.f,iv r.m,.bool r.s,.bool r.t] 31)
 clear hD hg hg4
 unfold iQ
 generalize Pl.top z=T at *
 clear hz
 go_enter func105,ntmps105
 go_wp2_with fail
 go_region_with (go_at_call 143;refine st (HT _) ?_)
 all_goals
  go_wp2_with fail
  go_ret
  exact ⟨rI (by rw [IntKind.wrap_i64,show (T-1+9223372036854775808)%18446744073709551616-9223372036854775808=T-1 by omega];exact HE.o),ae hK.o⟩
theorem Jm (w:World) (lo mid hi p g2:Nat) (c:Pl.Mc) (v:Int) (h:MAt w lo mid hi p g2 c) :
  Calls prog 150 #[.pointer (some ⟨p,0,none⟩),iv v] w fun e w'=>e=.returned (.tuple #[])∧∃g3,MAt w' lo mid hi p g3 (c.raise v)∧Since w lo hi g2 w' g3:=by
 have hl:=h.lo
 have HM:=hide h
 obtain ⟨gd,cd,ga,ca,g1,c1,c2,HB,HO⟩:=h.op
 have t3:=HB.o.k3
 have t11:=HB.o.k11
 have t12:=HB.o.k12
 have f11:=HB.o.frozen 11
 have f12:=HB.o.frozen 12
 go_enter func150,ntmps150
 go_wp2_with fail
 go_end0
 have hp:=HO.o.p0
 have hd:=HO.o.d0
 have hd1:=HO.o.d1
 have KK:=(ak w p 11 (iv v)).one 12 (iv c.r.p)
 have hq:(lo≤p∧p<hi)∨w.heap.size≤p:=by have:=HO.o.p1;omega
 exact ⟨rfl,g2,⟨gd,cd,ga,ca,g1,c1,c2,(HB.o.cV v).cPc c.r.p,HO.o.own KK⟩,((Since.refl _ _ _ _).set p 11 _ hq).set p 12 _ hq⟩
theorem gQ {z f v:Int} (w:World) (hv:Pl.okv z v=true) (hf:Pl.flags f=true):Calls prog 107 #[iv z,iv f,iv v] w fun e w'=>e=.returned (iv (Pl.aS z f v))∧w'=w:=by
 have e:Pl.aS z f v=bits .or .i64 (bits .and .i64 f 16) (bits .or .i64 (Pl.fl (v==0) 4) (Pl.fl (decide (Pl.sg z v<0)) 8)):=by unfold Pl.aS;rw [hv,hf];rfl
 rw [e]
 exact OJ z f v w hv
theorem DK (w:World) (lo mid hi p g2:Nat) (c:Pl.Mc) (z k v:Int) (h:MAt w lo mid hi p g2 c) (G:Pl.GM c) (k0:0≤k) (k1:k≤3) (hv:Pl.okv z v=true) :
  Calls prog 152 #[.pointer (some ⟨p,0,none⟩),iv z,iv k,iv v] w fun e w'=>e=.returned (.tuple #[])∧∃g3,MAt w' lo mid hi p g3 (c.data z k v)∧Since w lo hi g2 w' g3:=by
 have hl:=h.lo
 have HF:=hide (Pl.bI G)
 have HG:=hide ((G.aF (Pl.eG z c.r.f v hv (Pl.bI G)).1 (Pl.eG z c.r.f v hv (Pl.bI G)).2).g)
 have HM:=hide h
 obtain ⟨gd,cd,ga,ca,g1,c1,c2,HB,HO⟩:=h.op
 obtain ⟨t0,t1,t2,t3,t4,t5,t6,t7⟩:=HB.o.c8
 have f0:=HB.o.fz
 have hp:=HO.o.p0
 have hd:=HO.o.d0
 have hd1:=HO.o.d1
 have hs:=HB.o.lt
 have K1:=hide (ak w p 4 (iv (Pl.aS z c.r.f v)))
 have HO1:=hide (HO.o.own K1.o)
 have HB1:=hide (HB.o.cF (Pl.aS z c.r.f v))
 clear G
 go_enter func152,ntmps152
 go_wp2_with (first|(go_at_call 107;refine st (gQ _ hv HF.o) ?_)|(go_at_call 110;refine (qK _ lo mid gd cd ga ca {c.r with f:=Pl.aS z c.r.f v} z k v (MO.reg (r:={c.r with f:=Pl.aS z c.r.f v}) HO1.o) (by simp;omega) HG.o k0 k1 hv).mono ?_;unfold iQ;rintro e9 W ⟨rfl,hr9,hk9⟩;have HO2:=hide (HO1.o.regs hr9 hk9);have HB2:=hide (HB1.o.regs hk9 hp);have HK2:=hide hk9;clear hr9 hk9 t0 t1 t2 t3 t4 t5 t6 t7 f0;obtain ⟨t0,t1,t2,t3,t4,t5,t6,t7,_⟩:=HB2.o.cells;have f0:=HB2.o.frozen 0;have f1:=HB2.o.frozen 1;have f2:=HB2.o.frozen 2;have f3:=HB2.o.frozen 3;have f4:=HB2.o.frozen 4;have f5:=HB2.o.frozen 5;have f6:=HB2.o.frozen 6;have f7:=HB2.o.frozen 7))
 go_end0
 have hq:(lo≤p∧p<hi)∨w.heap.size≤p:=by have:=HO.o.p1;omega
 have hm9:=HO.o.p1
 exact ⟨rfl,g2,MAt.laid HB2.o HO2.o,fM (((Since.refl w lo hi g2).set p 4 _ hq).ai HK2.o (Nat.le_refl _) (by omega)) hq _ _ _ _ _ _ _ _⟩
theorem yg (w:World) (lo mid hi p g2:Nat) (c:Pl.Mc) (z m k x a v:Int) (h:MAt w lo mid hi p g2 c) (G:Pl.GM c) (k0:0≤k) (k1:k≤3) (a0:0≤a) (a1:a≤65535) (hv:Pl.okv z v=true) :
  Calls prog 106 #[.pointer (some ⟨p,0,none⟩),iv z,.agg #[iv m,iv k,iv x],iv a,iv v] w fun e w'=>e=.returned (.tuple #[])∧∃g3,MAt w' lo mid hi p g3 (c.write z m k a v)∧Since w lo hi g2 w' g3:=by
 have hl:=h.lo
 cases hm:(m==0)
 ·have KA:=hide (kept_alloc w (.cells #[iv m,iv k,iv x] 107))
  have E:Hid (c.write z m k a v=c.acc 2 z a v):=hide (by unfold Pl.Mc.write;rw [hm];rfl)
  have HM1:=hide (h.any KA.o)
  have HG:=hide G
  have HA:Hid (Pl.gq 2 z a v=true):=hide (by simp [Pl.gq,Pl.eP,Pl.addr,hv];omega)
  clear G h
  go_enter func106,ntmps106
  go_wp2_with (go_at_call 82;refine (ig _ lo mid hi p g2 c 2 z a v HM1.o HG.o HA.o).mono ?_;rintro e9 W ⟨rfl,g3,hm9,hb9⟩;have HM2:=hide hm9;have HL2:=hide hb9;clear hm9 hb9)
  go_end0
  exact ⟨rfl,g3,by rw [E.o];exact HM2.o,((Since.refl w lo hi g2).any KA.o).trans HL2.o⟩
 ·have E:Hid (c.write z m k a v=c.dB (Pl.jy c.r z k v)):=hide (by unfold Pl.Mc.write;rw [hm];rfl)
  have HG:=hide G.g
  have KA:=hide (kept_alloc w (.cells #[iv m,iv k,iv x] 107))
  have BA:=Blk.new w #[iv m,iv k,iv x] 107
  obtain ⟨X,hX⟩:∃X:World,w.alloc (.cells #[iv m,iv k,iv x] 107)=X:=⟨_,rfl⟩
  rw [hX] at KA BA
  have b0:=BA.all
  have hbw:=BA.lt
  have h2:=h.any KA.o
  have hl2:=h2.lo
  clear h BA
  have HM:=hide h2
  obtain ⟨gd,cd,ga,ca,g1,c1,c2,HB,HO⟩:=h2.op
  obtain ⟨t0,t1,t2,t3,t4,t5,t6,t7⟩:=HB.o.c8
  have f0:=HB.o.fz
  have hp:=HO.o.p0
  have hd:=HO.o.d0
  have hd1:=HO.o.d1
  have hs:=HB.o.lt
  have HMH:Hid (mid≤hi):=hide (by have:=HO.o.p1;omega)
  have HPH:Hid (lo≤p∧p<hi):=hide (by have:=HO.o.p1;omega)
  have HRD:=hide (MO.reg (r:=c.r) (HO.o.any (ae (Kept.refl 0 0 X))))
  have HOD:=hide (HO.o.any (ae (Kept.refl 0 0 X)))
  have HBD:=hide (HB.o.any (ae (Kept.refl 0 0 X)))
  have HMD:Hid (mid≤X.drew.heap.size):=hide hl2.2.1
  clear G
  go_enter func106,ntmps106
  go_wp2_with fail
  go_region_with (go_at_call 110;refine (qK _ lo mid gd cd ga ca c.r z k v HRD.o HMD.o HG.o k0 k1 hv).mono ?_;unfold iQ;rintro e9 W ⟨rfl,hr9,hk9⟩;have HO2:=hide (HOD.o.regs hr9 hk9);have HB2:=hide (HBD.o.regs hk9 hp);have HK2:=hide hk9;clear hr9 hk9;clear t0 t1 t2 t3 t4 t5 t6 t7 f0;obtain ⟨t0,t1,t2,t3,t4,t5,t6,t7,_⟩:=HB2.o.cells;have f0:=HB2.o.frozen 0;have f1:=HB2.o.frozen 1;have f2:=HB2.o.frozen 2;have f3:=HB2.o.frozen 3;have f4:=HB2.o.frozen 4;have f5:=HB2.o.frozen 5;have f6:=HB2.o.frozen 6;have f7:=HB2.o.frozen 7)
  all_goals
   go_wp2_with fail
   first|go_end0|refine bodyPost_ret (results_none rfl _ _ _) rfl ?_
   exact ⟨rfl,g2,by rw [E.o];exact MAt.laid HB2.o HO2.o,fM (((Since.refl w lo hi g2).any KA.o).drew.ai HK2.o (Nat.le_refl _) HMH.o) (.inl HPH.o) _ _ _ _ _ _ _ _⟩
theorem tH (w:World) (lo mid hi p g2:Nat) (c:Pl.Mc) (z m k x:Int) (h:MAt w lo mid hi p g2 c) (G:Pl.GM c) (k0:0≤k) (k1:k≤3) (x0:0≤x) (x1:x≤65535) (hm1:m=0∨m=2∨m=3∨m=4∨m=5∨m=6) :
  Calls prog 104 #[.pointer (some ⟨p,0,none⟩),iv z,.agg #[iv m,iv k,iv x]] w fun e w'=>e=.returned (iv (c.iR z m k x))∧∃g3,MAt w' lo mid hi p g3 (c.place z m k x)∧Since w lo hi g2 w' g3:=by
 have hl:=h.lo
 cases hm:(m==0)
 ·have hm2:m=2∨m=3∨m=4∨m=5∨m=6:=by simp at hm;omega
  have HG:=hide G
  have KA:=hide (kept_alloc w (.cells #[iv m,iv k,iv x] 107))
  have BA:=Blk.new w #[iv m,iv k,iv x] 107
  obtain ⟨X,hX⟩:∃X:World,w.alloc (.cells #[iv m,iv k,iv x] 107)=X:=⟨_,rfl⟩
  rw [hX] at KA BA
  have b0:=BA.all
  have hbw:=BA.lt
  have h2:=h.any KA.o
  have hl2:=h2.lo
  clear h BA
  have HM:=hide h2
  obtain ⟨gd,cd,ga,ca,g1,c1,c2,HB,HO⟩:=h2.op
  obtain ⟨t0,t1,t2,t3,t4,t5,t6,t7⟩:=HB.o.c8
  have f0:=HB.o.fz
  have hp:=HO.o.p0
  have hd:=HO.o.d0
  have hd1:=HO.o.d1
  have hs:=HB.o.lt
  have HMH:Hid (mid≤hi):=hide (by have:=HO.o.p1;omega)
  have HPH:Hid (lo≤p∧p<hi):=hide (by have:=HO.o.p1;omega)
  have HRD:=hide (MO.reg (r:=c.r) (HO.o.any (ae (Kept.refl 0 0 X))))
  have HOD:=hide (HO.o.any (ae (Kept.refl 0 0 X)))
  have HBD:=hide (HB.o.any (ae (Kept.refl 0 0 X)))
  have HMD:Hid (mid≤X.drew.heap.size):=hide hl2.2.1
  have KZ:Kept 0 0 X (X.drew.alloc (.cells #[.slice none 0 0,.slice none 0 0,iv 0,iv 0,iv 0,iv 0,.bool false,.bool false] 31)):=ah (ae (Kept.refl 0 0 X)) _
  have HRZ:=hide (MO.reg (r:=c.r) (HO.o.any KZ))
  have HOZ:=hide (HO.o.any KZ)
  have HBZ:=hide (HB.o.any KZ)
  have HMZ:Hid (mid≤(X.drew.alloc (.cells #[.slice none 0 0,.slice none 0 0,iv 0,iv 0,iv 0,iv 0,.bool false,.bool false] 31)).heap.size):=hide (by rw [World.size_alloc];exact Nat.le_trans hl2.2.1 (Nat.le_succ _))
  have BZ:Hid (Blk (X.drew.alloc (.cells #[.slice none 0 0,.slice none 0 0,iv 0,iv 0,iv 0,iv 0,.bool false,.bool false] 31)) X.heap.size #[.slice none 0 0,.slice none 0 0,iv 0,iv 0,iv 0,iv 0,.bool false,.bool false] 31):=hide (Blk.new X.drew #[.slice none 0 0,.slice none 0 0,iv 0,iv 0,iv 0,iv 0,.bool false,.bool false] 31)
  have HKZ:=hide KZ
  have hb1:=HO.o.b.lt (by rw [HG.o.bx];decide)
  have hb2:=HO.o.g2.2
  clear KZ
  have HP:=fun (w9:World) (hr:gz w9 lo mid c.r (some ⟨gd,0,none⟩) (some ⟨ga,0,none⟩)) (hh:mid≤w9.heap.size)=>Iy w9 lo mid gd cd ga ca c.r z m k x hr hh HG.o.g k0 k1 x0 x1 hm2
  obtain ⟨R,hR⟩:∃R,Pl.dA c.r z m k x=R:=⟨_,rfl⟩
  obtain ⟨V,hV⟩:∃V,Pl.dm c.r z m k x=V:=⟨_,rfl⟩
  simp only [hR,hV,iQ] at HP
  have E:Hid (c.place z m k x=c.dB R):=hide (by unfold Pl.Mc.place Pl.Mc.plc;rw [hm,hR];rfl)
  have E2:Hid (c.iR z m k x=V):=hide (by unfold Pl.Mc.iR;rw [hm,hV];rfl)
  clear hR hV
  have HNZ:Hid (¬(lo≤X.heap.size∧X.heap.size<mid)):=hide (by have q:=hl2.2.1;omega)
  have HPZ:Hid (p<X.heap.size):=hide hs
  clear G hm1
  go_enter func104,ntmps104
  go_wp2_with fail
  go_region_with (first|(go_at_call 142;refine (HP _ HRD.o HMD.o).mono ?_;rintro e9 W ⟨rfl,hr9,hk9⟩;have HO2:=hide (HOD.o.regs hr9 hk9);have HB2:=hide (HBD.o.regs hk9 hp);have HK2:=hide hk9;have HA1:=hide hk9;have hpW:=HB2.o.lt;clear hr9 hk9;clear t0 t1 t2 t3 t4 t5 t6 t7 f0;obtain ⟨t0,t1,t2,t3,t4,t5,t6,t7,_⟩:=HB2.o.cells;have f0:=HB2.o.frozen 0;have f1:=HB2.o.frozen 1;have f2:=HB2.o.frozen 2;have f3:=HB2.o.frozen 3;have f4:=HB2.o.frozen 4;have f5:=HB2.o.frozen 5;have f6:=HB2.o.frozen 6;have f7:=HB2.o.frozen 7)|(go_at_call 142;refine (HP _ HRZ.o HMZ.o).mono ?_;rintro e9 W ⟨rfl,hr9,hk9⟩;have HO2:=hide (HOZ.o.regs hr9 hk9);have HB2:=hide (HBZ.o.regs hk9 hp);have HK2:=hide hk9;have HA2:=hide hk9;have BZ2:=hide (Blk.kept BZ.o hk9 HNZ.o);clear hr9 hk9;clear t0 t1 t2 t3 t4 t5 t6 t7 f0;obtain ⟨t0,t1,t2,t3,t4,t5,t6,t7,_⟩:=HB2.o.cells;have f0:=HB2.o.frozen 0;have f1:=HB2.o.frozen 1;have f2:=HB2.o.frozen 2;have f3:=HB2.o.frozen 3;have f4:=HB2.o.frozen 4;have f5:=HB2.o.frozen 5;have f6:=HB2.o.frozen 6;have f7:=HB2.o.frozen 7;have y0:=BZ2.o.cell (i:=0) rfl;have v0:=BZ2.o.frozen 0;have y1:=BZ2.o.cell (i:=1) rfl;have v1:=BZ2.o.frozen 1;have y2:=BZ2.o.cell (i:=2) rfl;have v2:=BZ2.o.frozen 2;have y3:=BZ2.o.cell (i:=3) rfl;have v3:=BZ2.o.frozen 3;have y4:=BZ2.o.cell (i:=4) rfl;have v4:=BZ2.o.frozen 4;have y5:=BZ2.o.cell (i:=5) rfl;have v5:=BZ2.o.frozen 5;have y6:=BZ2.o.cell (i:=6) rfl;have v6:=BZ2.o.frozen 6;have y7:=BZ2.o.cell (i:=7) rfl;have v7:=BZ2.o.frozen 7))
  all_goals
   go_wp2_with fail
   go_ret
   rw [E.o]
   first
    | (have z9:=HA1;exact ⟨rI E2.o.symm,g2,(MAt.laid HB2.o HO2.o).any (kept_alloc _ _),(fM (((Since.refl w lo hi g2).any KA.o).drew.ai HK2.o (Nat.le_refl _) HMH.o) (.inl HPH.o) _ _ _ _ _ _ _ _).alloc _⟩)
    | (have z9:=HA2;exact ⟨rI E2.o.symm,g2,MAt.laid (HB2.o.past (MB.jf _ _ _ _ _ _ _ _) HPZ.o) (HO2.o.past (MB.jf _ _ _ _ _ _ _ _) hl2.2.1 hb1 hb2),fM (fM ((((Since.refl w lo hi g2).any KA.o).any HKZ.o).ai HK2.o (Nat.le_refl _) HMH.o) (.inr KA.o.size) _ _ _ _ _ _ _ _) (.inl HPH.o) _ _ _ _ _ _ _ _⟩)
 ·have KA:=hide (kept_alloc w (.cells #[iv m,iv k,iv x] 107))
  have E:Hid (c.place z m k x=c):=hide (by unfold Pl.Mc.place;rw [hm];rfl)
  have E2:Hid (c.iR z m k x=0):=hide (by unfold Pl.Mc.iR;rw [hm];rfl)
  have HM:=hide (h.any KA.o)
  clear h G
  go_enter func104,ntmps104
  go_wp2_with fail
  go_ret
  exact ⟨rI E2.o.symm,g2,by rw [E.o];exact HM.o,(Since.refl w lo hi g2).any KA.o⟩
theorem Pl.yT {z a:Int} (hz:z=1∨z=2) (h0:0≤a) (h1:a≤65535):Pl.gq 1 z a 0=true:=by
 rcases hz with rfl|rfl<;>simp [Pl.gq,Pl.eP,Pl.okv,Pl.top,Pl.addr]<;>omega
theorem Jl (w:World) (lo mid hi p g2:Nat) (c:Pl.Mc) (z m k x:Int) (h:MAt w lo mid hi p g2 c) (G:Pl.GM c) (hz:z=1∨z=2) (k0:0≤k) (k1:k≤3) (x0:0≤x) (x1:x≤65535) (hm2:m=2∨m=3∨m=4∨m=5∨m=6) :
  Calls prog 103 #[.pointer (some ⟨p,0,none⟩),iv z,.agg #[iv m,iv k,iv x]] w fun e w'=>e=.returned (.tuple #[iv (c.bf z m k x),iv (c.readA z m k x)])∧∃g3,MAt w' lo mid hi p g3 (c.read z m k x)∧Since w lo hi g2 w' g3:=by
 have hl:=h.lo
 have q0:(m==0)=false:=by simp;omega
 have q1:(m==1)=false:=by simp;omega
 have q7:(m==7)=false:=by simp;omega
 have HG:=hide G
 have KA:=hide (kept_alloc w (.cells #[iv m,iv k,iv x] 107))
 have BA:=Blk.new w #[iv m,iv k,iv x] 107
 obtain ⟨X,hX⟩:∃X:World,w.alloc (.cells #[iv m,iv k,iv x] 107)=X:=⟨_,rfl⟩
 rw [hX] at KA BA
 have b0:=BA.all
 have hbw:=BA.lt
 have h2:=h.any KA.o
 have hl2:=h2.lo
 clear h BA
 have HM:=hide h2
 obtain ⟨gd,cd,ga,ca,g1,c1,c2,HB,HO⟩:=h2.op
 obtain ⟨t0,t1,t2,t3,t4,t5,t6,t7⟩:=HB.o.c8
 have f0:=HB.o.fz
 have hp:=HO.o.p0
 have hd:=HO.o.d0
 have hd1:=HO.o.d1
 have hs:=HB.o.lt
 have HMH:Hid (mid≤hi):=hide (by have:=HO.o.p1;omega)
 have HPH:Hid (lo≤p∧p<hi):=hide (by have:=HO.o.p1;omega)
 have HRD:=hide (MO.reg (r:=c.r) (HO.o.any (ae (Kept.refl 0 0 X))))
 have HOD:=hide (HO.o.any (ae (Kept.refl 0 0 X)))
 have HBD:=hide (HB.o.any (ae (Kept.refl 0 0 X)))
 have HMD:Hid (mid≤X.drew.heap.size):=hide hl2.2.1
 have KZ:Kept 0 0 X (X.drew.alloc (.cells #[.slice none 0 0,.slice none 0 0,iv 0,iv 0,iv 0,iv 0,.bool false,.bool false] 31)):=ah (ae (Kept.refl 0 0 X)) _
 have HRZ:=hide (MO.reg (r:=c.r) (HO.o.any KZ))
 have HOZ:=hide (HO.o.any KZ)
 have HBZ:=hide (HB.o.any KZ)
 have HMZ:Hid (mid≤(X.drew.alloc (.cells #[.slice none 0 0,.slice none 0 0,iv 0,iv 0,iv 0,iv 0,.bool false,.bool false] 31)).heap.size):=hide (by rw [World.size_alloc];exact Nat.le_trans hl2.2.1 (Nat.le_succ _))
 have BZ:Hid (Blk (X.drew.alloc (.cells #[.slice none 0 0,.slice none 0 0,iv 0,iv 0,iv 0,iv 0,.bool false,.bool false] 31)) X.heap.size #[.slice none 0 0,.slice none 0 0,iv 0,iv 0,iv 0,iv 0,.bool false,.bool false] 31):=hide (Blk.new X.drew #[.slice none 0 0,.slice none 0 0,iv 0,iv 0,iv 0,iv 0,.bool false,.bool false] 31)
 have HKZ:=hide KZ
 have hb1:=HO.o.b.lt (by rw [HG.o.bx];decide)
 have hb2:=HO.o.g2.2
 clear KZ
 have HP:=fun (w9:World) (hr:gz w9 lo mid c.r (some ⟨gd,0,none⟩) (some ⟨ga,0,none⟩)) (hh:mid≤w9.heap.size)=>Iy w9 lo mid gd cd ga ca c.r z m k x hr hh HG.o.g k0 k1 x0 x1 hm2
 have HV:=Pl.iT (m:=m) (z:=z) HG.o.g k0 k1 x0 x1
 have HG2:=G.plc (z:=z) (m:=m) (e:=x) k0 k1
 obtain ⟨R,hR⟩:∃R,Pl.dA c.r z m k x=R:=⟨_,rfl⟩
 obtain ⟨V,hV⟩:∃V,Pl.dm c.r z m k x=V:=⟨_,rfl⟩
 simp only [hR,hV,iQ] at HP
 rw [hV] at HV
 have HG3:Hid (Pl.GM (c.dB R)):=hide (by unfold Pl.Mc.plc at HG2;rw [hR] at HG2;exact HG2)
 have HA3:=hide (Pl.yT hz HV.1 HV.2)
 have E:Hid (c.read z m k x=(c.dB R).acc 1 z V 0):=hide (by unfold Pl.Mc.read Pl.Mc.gU Pl.Mc.plc;rw [q0,q1,q7,hR,hV];rfl)
 have E2:Hid (c.bf z m k x=(c.dB R).jI 1 z V 0):=hide (by unfold Pl.Mc.bf Pl.Mc.plc;rw [q0,q1,q7,hR,hV];rfl)
 have E3:Hid (c.readA z m k x=V):=hide (by unfold Pl.Mc.readA Pl.Mc.gU;rw [q0,q1,q7,hV];rfl)
 clear hR hV HG2 HV
 have HNZ:Hid (¬(lo≤X.heap.size∧X.heap.size<mid)):=hide (by have q:=hl2.2.1;omega)
 have HPZ:Hid (p<X.heap.size):=hide hs
 clear G
 go_enter func103,ntmps103
 go_wp2_with fail
 go_region_with (first|(go_at_call 142;refine (HP _ HRD.o HMD.o).mono ?_;rintro e9 W ⟨rfl,hr9,hk9⟩;have HO2:=hide (HOD.o.regs hr9 hk9);have HB2:=hide (HBD.o.regs hk9 hp);have HK2:=hide hk9;have HA1:=hide hk9;have hpW:=HB2.o.lt;clear hr9 hk9;clear t0 t1 t2 t3 t4 t5 t6 t7 f0;obtain ⟨t0,t1,t2,t3,t4,t5,t6,t7,_⟩:=HB2.o.cells;have f0:=HB2.o.frozen 0;have f1:=HB2.o.frozen 1;have f2:=HB2.o.frozen 2;have f3:=HB2.o.frozen 3;have f4:=HB2.o.frozen 4;have f5:=HB2.o.frozen 5;have f6:=HB2.o.frozen 6;have f7:=HB2.o.frozen 7)|(go_at_call 142;refine (HP _ HRZ.o HMZ.o).mono ?_;rintro e9 W ⟨rfl,hr9,hk9⟩;have HO2:=hide (HOZ.o.regs hr9 hk9);have HB2:=hide (HBZ.o.regs hk9 hp);have HK2:=hide hk9;have HA2:=hide hk9;have BZ2:=hide (Blk.kept BZ.o hk9 HNZ.o);clear hr9 hk9;clear t0 t1 t2 t3 t4 t5 t6 t7 f0;obtain ⟨t0,t1,t2,t3,t4,t5,t6,t7,_⟩:=HB2.o.cells;have f0:=HB2.o.frozen 0;have f1:=HB2.o.frozen 1;have f2:=HB2.o.frozen 2;have f3:=HB2.o.frozen 3;have f4:=HB2.o.frozen 4;have f5:=HB2.o.frozen 5;have f6:=HB2.o.frozen 6;have f7:=HB2.o.frozen 7;have y0:=BZ2.o.cell (i:=0) rfl;have v0:=BZ2.o.frozen 0;have y1:=BZ2.o.cell (i:=1) rfl;have v1:=BZ2.o.frozen 1;have y2:=BZ2.o.cell (i:=2) rfl;have v2:=BZ2.o.frozen 2;have y3:=BZ2.o.cell (i:=3) rfl;have v3:=BZ2.o.frozen 3;have y4:=BZ2.o.cell (i:=4) rfl;have v4:=BZ2.o.frozen 4;have y5:=BZ2.o.cell (i:=5) rfl;have v5:=BZ2.o.frozen 5;have y6:=BZ2.o.cell (i:=6) rfl;have v6:=BZ2.o.frozen 6;have y7:=BZ2.o.cell (i:=7) rfl;have v7:=BZ2.o.frozen 7))
 all_goals
  go_wp2_with fail
  refine (ig _ lo mid hi p g2 (c.dB R) 1 z V 0 ?hm HG3.o HA3.o).mono ?_
  case hm=>
   first
    | (have z9:=HA1;exact (MAt.laid HB2.o HO2.o).any (kept_alloc _ _))
    | (have z9:=HA2;exact MAt.laid (HB2.o.past (MB.jf _ _ _ _ _ _ _ _) HPZ.o) (HO2.o.past (MB.jf _ _ _ _ _ _ _ _) hl2.2.1 hb1 hb2))
  rintro e9 W2 ⟨rfl,g3,hm9,hb9⟩
  have HM2:=hide hm9
  have HL2:Hid (Since w lo hi g2 W2 g3):=by
   first
    | (have z9:=HA1;exact hide (((fM (((Since.refl w lo hi g2).any KA.o).drew.ai HK2.o (Nat.le_refl _) HMH.o) (.inl HPH.o) _ _ _ _ _ _ _ _).alloc _).trans hb9))
    | (have z9:=HA2;exact hide ((fM (fM ((((Since.refl w lo hi g2).any KA.o).any HKZ.o).ai HK2.o (Nat.le_refl _) HMH.o) (.inr KA.o.size) _ _ _ _ _ _ _ _) (.inl HPH.o) _ _ _ _ _ _ _ _).trans hb9))
  clear hm9 hb9
  go_wp2_with fail
  go_ret2
  exact ⟨rII E2.o.symm E3.o.symm,g3,by rw [E.o];exact HM2.o,HL2.o⟩
theorem jM (w:World) (lo mid hi p g2:Nat) (c:Pl.Mc) (z m k x:Int) (h:MAt w lo mid hi p g2 c) (G:Pl.GM c) (hz:z=1∨z=2) (k0:0≤k) (k1:k≤3) (x0:0≤x) (x1:x≤65535) (m0:0≤m) (m1:m≤7) :
  Calls prog 103 #[.pointer (some ⟨p,0,none⟩),iv z,.agg #[iv m,iv k,iv x]] w fun e w'=>e=.returned (.tuple #[iv (c.bf z m k x),iv (c.readA z m k x)])∧∃g3,MAt w' lo mid hi p g3 (c.read z m k x)∧Since w lo hi g2 w' g3:=by
 by_cases hm:m=2∨m=3∨m=4∨m=5∨m=6
 ·exact Jl w lo mid hi p g2 c z m k x h G hz k0 k1 x0 x1 hm
 have hl:=h.lo
 have hm':m=0∨m=1∨m=7:=by omega
 have HG:=hide G
 rcases hm' with rfl|rfl|rfl
 ·have E:Hid (c.bf z 0 k x=el c.r.xs k.toNat%Pl.top z):=hide rfl
  have KA:=hide (kept_alloc w (.cells #[iv 0,iv k,iv x] 107))
  have BA:=Blk.new w #[iv 0,iv k,iv x] 107
  obtain ⟨X,hX⟩:∃X:World,w.alloc (.cells #[iv 0,iv k,iv x] 107)=X:=⟨_,rfl⟩
  rw [hX] at KA BA
  have b0:=BA.all
  have hbw:=BA.lt
  have h2:=h.any KA.o
  have hl2:=h2.lo
  clear h BA
  have HM:=hide h2
  obtain ⟨gd,cd,ga,ca,g1,c1,c2,HB,HO⟩:=h2.op
  obtain ⟨t0,t1,t2,t3,t4,t5,t6,t7⟩:=HB.o.c8
  have f0:=HB.o.fz
  have hp:=HO.o.p0
  have hd:=HO.o.d0
  have hd1:=HO.o.d1
  have hs:=HB.o.lt
  have HMH:Hid (mid≤hi):=hide (by have:=HO.o.p1;omega)
  have HPH:Hid (lo≤p∧p<hi):=hide (by have:=HO.o.p1;omega)
  have HD:=hide (HO.o.any (ae (Kept.refl 0 0 X))).d
  clear G hm
  go_enter func103,ntmps103
  go_wp2_with fail
  go_region_with (go_at_call 105;refine (wM _ gd cd ga ca c.r z k HD.o HG.o.g hz k0 k1).mono ?_;rintro e9 W ⟨rfl,hk9⟩;have HK:=hide hk9;clear hk9)
  all_goals
   go_wp2_with fail
   go_ret2
   exact ⟨rII E.o.symm rfl,g2,HM.o.any ((ae (Kept.refl 0 0 X)).trans HK.o),((Since.refl w lo hi g2).any KA.o).drew.any HK.o⟩
 ·obtain ⟨n,rfl⟩:∃n:Nat,k=(n:Int):=⟨k.toNat,by omega⟩
  have k4:(n:Int)<4:=by omega
  have E:Hid (c.bf z 1 n x=el c.r.ys n):=hide rfl
  have KA:=hide (kept_alloc w (.cells #[iv 1,iv (n:Int),iv x] 107))
  have BA:=Blk.new w #[iv 1,iv (n:Int),iv x] 107
  obtain ⟨X,hX⟩:∃X:World,w.alloc (.cells #[iv 1,iv (n:Int),iv x] 107)=X:=⟨_,rfl⟩
  rw [hX] at KA BA
  have b0:=BA.all
  have hbw:=BA.lt
  have h2:=h.any KA.o
  have hl2:=h2.lo
  clear h BA
  have HM:=hide h2
  obtain ⟨gd,cd,ga,ca,g1,c1,c2,HB,HO⟩:=h2.op
  obtain ⟨t0,t1,t2,t3,t4,t5,t6,t7⟩:=HB.o.c8
  have f0:=HB.o.fz
  have hp:=HO.o.p0
  have hd:=HO.o.d0
  have hd1:=HO.o.d1
  have hs:=HB.o.lt
  have HMH:Hid (mid≤hi):=hide (by have:=HO.o.p1;omega)
  have HPH:Hid (lo≤p∧p<hi):=hide (by have:=HO.o.p1;omega)
  obtain ⟨hc,_⟩:=jL HO.o.a n (by rw [HG.o.g.a4];omega)
  clear G hm
  go_enter func103,ntmps103
  go_wp2_with fail
  go_region
  go_wp2_with fail
  go_ret2
  exact ⟨rII E.o.symm rfl,g2,HM.o.any (ae (Kept.refl 0 0 X)),((Since.refl w lo hi g2).any KA.o).drew⟩
 ·have E:Hid (c.bf z 7 k x=x):=hide rfl
  have KA:=hide (kept_alloc w (.cells #[iv 7,iv k,iv x] 107))
  have BA:=Blk.new w #[iv 7,iv k,iv x] 107
  obtain ⟨X,hX⟩:∃X:World,w.alloc (.cells #[iv 7,iv k,iv x] 107)=X:=⟨_,rfl⟩
  rw [hX] at KA BA
  have b0:=BA.all
  have hbw:=BA.lt
  have h2:=h.any KA.o
  have hl2:=h2.lo
  clear h BA
  have HM:=hide h2
  obtain ⟨gd,cd,ga,ca,g1,c1,c2,HB,HO⟩:=h2.op
  obtain ⟨t0,t1,t2,t3,t4,t5,t6,t7⟩:=HB.o.c8
  have f0:=HB.o.fz
  have hp:=HO.o.p0
  have hd:=HO.o.d0
  have hd1:=HO.o.d1
  have hs:=HB.o.lt
  have HMH:Hid (mid≤hi):=hide (by have:=HO.o.p1;omega)
  have HPH:Hid (lo≤p∧p<hi):=hide (by have:=HO.o.p1;omega)
  clear G hm
  go_enter func103,ntmps103
  go_wp2_with fail
  go_ret2
  exact ⟨rII E.o.symm rfl,g2,HM.o,(Since.refl w lo hi g2).any KA.o⟩
theorem pM {fn:Func} {p u1 u2:Tmp} {ty:TypeId} (h:fn.results=#[.cell p ty,.tmp u1,.tmp u2]) (tmps:Array Value) (P:Program) (w:World) :
  (results fn tmps).run P w=((asAddr (tmps.getD p undef)).run P w).andThen fun a w₁=>((loadVar ty a).run P w₁).andThen fun v w₂=>.ok (.tuple #[v,tmps.getD u1 undef,tmps.getD u2 undef]) w₂:=by
 simp only [results,h]
 simp [Sem.run_bind,Result.andThen]
theorem Pl.and7 (a:Int):bits .and .i64 a 7=a%8:=by
 show IntKind.i64.wrap ((BitVec.ofInt 64 a &&& BitVec.ofInt 64 7).toNat:Int)=_
 rw [BitVec.toNat_and,BitVec.toNat_ofInt,show (BitVec.ofInt 64 7).toNat=2^3-1 from by decide,Nat.and_two_pow_sub_one_eq_mod,IntKind.wrap_i64]
 omega
theorem Pl.WW (a:Int):bits .and .i64 a 3=a%4:=by
 show IntKind.i64.wrap ((BitVec.ofInt 64 a &&& BitVec.ofInt 64 3).toNat:Int)=_
 rw [BitVec.toNat_and,BitVec.toNat_ofInt,show (BitVec.ofInt 64 3).toNat=2^2-1 from by decide,Nat.and_two_pow_sub_one_eq_mod,IntKind.wrap_i64]
 omega
theorem lK (m:Int) (w:World):Calls prog 138 #[iv m] w fun e w'=>e=.returned (.bool (Pl.kG m))∧w'=w:=by
 go_enter func138,ntmps138
 go_wp2_with (go_at_call 40;refine st (dY _ _ _ _) ?_)
 go_ret
 exact ⟨rfl,rfl⟩
theorem jo (m:Int) (w:World):Calls prog 139 #[iv m] w fun e w'=>e=.returned (.bool (Pl.fO m))∧w'=w:=by
 cases h1:(m==2)<;>cases h2:(m==5)<;>cases h3:(m==6)
 all_goals
  go_enter func139,ntmps139
  go_wp2
  go_ret
  exact ⟨rB (by simp only [Pl.fO,h1,h2,h3];rfl),rfl⟩
theorem fB (m k e:Int) (w:World):Calls prog 141 #[.agg #[iv m,iv k,iv e]] w fun r w'=>r=.returned (.bool (Pl.iF m k e))∧Kept 0 0 w w':=by
 have K0:=hide (kept_alloc w (.cells #[iv m,iv k,iv e] 107))
 cases h1:(m==0)<;>cases h2:(k==0)<;>cases h3:(e==0)
 all_goals
  go_enter func141,ntmps141
  go_wp2
  go_ret
  exact ⟨rB (by simp only [Pl.iF,h1,h2,h3];rfl),K0.o⟩
theorem lJ (m k e:Int) (w:World):Calls prog 140 #[.agg #[iv m,iv k,iv e]] w fun r w'=>r=.returned (.bool (Pl.jA m e))∧Kept 0 0 w w':=by
 have K0:=hide (kept_alloc w (.cells #[iv m,iv k,iv e] 107))
 cases h1:(m==7)<;>cases h2:decide (e≤1023)
 all_goals
  go_enter func140,ntmps140
  go_wp2
  go_ret
  exact ⟨rB (by simp only [Pl.jA,h1,h2];rfl),K0.o⟩
theorem xX (op:Int):op=1∨op=2∨op=3∨op=4∨op=5∨op=6∨op=7∨op=8∨op=9∨op=10∨op=11∨op=12∨op=13∨op=14∨op=15∨op=16∨op=17∨op=18∨op=19∨(¬op=1∧¬op=2∧¬op=3∧¬op=4∧¬op=5∧¬op=6∧¬op=7∧¬op=8∧¬op=9∧¬op=10∧¬op=11∧¬op=12∧¬op=13∧¬op=14∧¬op=15∧¬op=16∧¬op=17∧¬op=18∧¬op=19):=by omega
set_option linter.unusedSimpArgs false
theorem Gg (w:World) (op r m k e s:Int) (h2:Pl.within r 0 3=true) (h3:Pl.iY m k e=true) (h4:Pl.within s 0 7=true) (h6:(m==7)=false) :
  Calls prog 102 #[.agg (inA op 1 r m k e s)] w fun r' w'=>r'=.returned (.bool (Pl.dH ⟨op,1,r,m,k,e,s⟩))∧Kept 0 0 w w':=by
 have K0:=hide (kept_alloc w (.cells (inA op 1 r m k e s) 109))
 have B0:=hide (Blk.new w (inA op 1 r m k e s) 109)
 have G:Hid (Pl.dH ⟨op,1,r,m,k,e,s⟩=Pl.ay ⟨op,1,r,m,k,e,s⟩):=hide (by simp only [Pl.dH,Pl.inBase,Pl.lT,h2,h3,h4,h6];rfl)
 have hN:Pl.jA m e=false:=by simp only [Pl.jA,h6];rfl
 go_enter func102,ntmps102
 go_upto_region 5 with (first|(go_at_call 40;have z9:=B2;refine st (dY _ _ _ _) ?_;rw [show (decide (0≤s)&&decide (s≤7))=Pl.within s 0 7 from rfl,h4])|(go_at_call 136;refine st (uM _) ?_)|(go_at_call 40;refine st (dY _ _ _ _) ?_;rw [show (decide (0≤r)&&decide (r≤3))=Pl.within r 0 3 from rfl,h2])|(go_at_call 137;refine (eU _ m k e).mono ?_;rintro e9 w2 ⟨rfl,k2⟩;rw [h3];have B2:=hide (B0.o.af k2);have K2:=hide (K0.o.trans k2);have c0:=B2.o.all;clear k2))
 rcases xX op with rfl|rfl|rfl|rfl|rfl|rfl|rfl|rfl|rfl|rfl|rfl|rfl|rfl|rfl|rfl|rfl|rfl|rfl|rfl|hno
 ·have KND:Hid (Pl.ay ⟨1,1,r,m,k,e,s⟩=((s==0)&&(((1:Int)==2) || !(m==1)))):=hide rfl
  cases a1:(s==0)
  all_goals
   go_wp2_with fail
   go_ret
   exact ⟨rB (by rw [G.o,KND.o]<;>first|rfl|(simp only [a1,hN,h6];done)|(simp only [a1,hN,h6];rfl)|simp [a1,hN,h6]),by first|exact K4.o|exact K3.o|exact K2.o⟩
 ·have KND:Hid (Pl.ay ⟨2,1,r,m,k,e,s⟩=((s==0)&&((m==0)||Pl.kG m))):=hide rfl
  cases a1:(s==0)<;>cases b1:(m==0)
  all_goals
   go_wp2_with (first|(go_at_call 138;refine st (lK _ _) ?_))
   go_ret
   exact ⟨rB (by rw [G.o,KND.o]<;>first|rfl|(simp only [a1,b1,hN,h6];done)|(simp only [a1,b1,hN,h6];rfl)|simp [a1,b1,hN,h6]),by first|exact K4.o|exact K3.o|exact K2.o⟩
 ·have KND:Hid (Pl.ay ⟨3,1,r,m,k,e,s⟩=((s==0)&&(((1:Int)==2) || !(m==1)))):=hide rfl
  cases a1:(s==0)
  all_goals
   go_wp2_with fail
   go_ret
   exact ⟨rB (by rw [G.o,KND.o]<;>first|rfl|(simp only [a1,hN,h6];done)|(simp only [a1,hN,h6];rfl)|simp [a1,hN,h6]),by first|exact K4.o|exact K3.o|exact K2.o⟩
 ·have KND:Hid (Pl.ay ⟨4,1,r,m,k,e,s⟩=((s==0)&&(((1:Int)==2) || !(m==1)))):=hide rfl
  cases a1:(s==0)
  all_goals
   go_wp2_with fail
   go_ret
   exact ⟨rB (by rw [G.o,KND.o]<;>first|rfl|(simp only [a1,hN,h6];done)|(simp only [a1,hN,h6];rfl)|simp [a1,hN,h6]),by first|exact K4.o|exact K3.o|exact K2.o⟩
 ·have KND:Hid (Pl.ay ⟨5,1,r,m,k,e,s⟩=((s==0)&&(((1:Int)==2) || !(m==1)))):=hide rfl
  cases a1:(s==0)
  all_goals
   go_wp2_with fail
   go_ret
   exact ⟨rB (by rw [G.o,KND.o]<;>first|rfl|(simp only [a1,hN,h6];done)|(simp only [a1,hN,h6];rfl)|simp [a1,hN,h6]),by first|exact K4.o|exact K3.o|exact K2.o⟩
 ·have KND:Hid (Pl.ay ⟨6,1,r,m,k,e,s⟩=((s==0)&&(((1:Int)==2) || !(m==1)))):=hide rfl
  cases a1:(s==0)
  all_goals
   go_wp2_with fail
   go_ret
   exact ⟨rB (by rw [G.o,KND.o]<;>first|rfl|(simp only [a1,hN,h6];done)|(simp only [a1,hN,h6];rfl)|simp [a1,hN,h6]),by first|exact K4.o|exact K3.o|exact K2.o⟩
 ·have KND:Hid (Pl.ay ⟨7,1,r,m,k,e,s⟩=((s==0)&&(((1:Int)==2) || !(m==1)))):=hide rfl
  cases a1:(s==0)
  all_goals
   go_wp2_with fail
   go_ret
   exact ⟨rB (by rw [G.o,KND.o]<;>first|rfl|(simp only [a1,hN,h6];done)|(simp only [a1,hN,h6];rfl)|simp [a1,hN,h6]),by first|exact K4.o|exact K3.o|exact K2.o⟩
 ·have KND:Hid (Pl.ay ⟨8,1,r,m,k,e,s⟩=((s==0)&&(((1:Int)==2) || !(m==1)))):=hide rfl
  cases a1:(s==0)
  all_goals
   go_wp2_with fail
   go_ret
   exact ⟨rB (by rw [G.o,KND.o]<;>first|rfl|(simp only [a1,hN,h6];done)|(simp only [a1,hN,h6];rfl)|simp [a1,hN,h6]),by first|exact K4.o|exact K3.o|exact K2.o⟩
 ·have KND:Hid (Pl.ay ⟨9,1,r,m,k,e,s⟩=(((1:Int)==2)&&(s==0))):=hide rfl
  go_wp2_with fail
  go_ret
  exact ⟨rB (by rw [G.o,KND.o]<;>first|rfl|(simp only [hN,h6];done)|(simp only [hN,h6];rfl)|simp [hN,h6]),by first|exact K4.o|exact K3.o|exact K2.o⟩
 ·have KND:Hid (Pl.ay ⟨10,1,r,m,k,e,s⟩=((((1:Int)==2)&&(s==0))&&Pl.fO m)):=hide rfl
  go_wp2_with (first|(go_at_call 139;refine st (jo _ _) ?_))
  go_ret
  exact ⟨rB (by rw [G.o,KND.o]<;>first|rfl|(simp only [hN,h6];done)|(simp only [hN,h6];rfl)|simp [hN,h6]),by first|exact K4.o|exact K3.o|exact K2.o⟩
 ·have KND:Hid (Pl.ay ⟨11,1,r,m,k,e,s⟩=(((r==0)&&decide (s≤3))&&((m==0)||Pl.kG m))):=hide rfl
  cases a1:(r==0)<;>cases a2:decide (s≤3)<;>cases b1:(m==0)
  all_goals
   go_wp2_with (first|(go_at_call 138;refine st (lK _ _) ?_))
   go_ret
   exact ⟨rB (by rw [G.o,KND.o]<;>first|rfl|(simp only [a1,a2,b1,hN,h6];done)|(simp only [a1,a2,b1,hN,h6];rfl)|simp [a1,a2,b1,hN,h6]),by first|exact K4.o|exact K3.o|exact K2.o⟩
 ·have KND:Hid (Pl.ay ⟨12,1,r,m,k,e,s⟩=((m==0))):=hide rfl
  go_wp2_with fail
  go_ret
  exact ⟨rB (by rw [G.o,KND.o]<;>first|rfl|(simp only [hN,h6];done)|(simp only [hN,h6];rfl)|simp [hN,h6]),by first|exact K4.o|exact K3.o|exact K2.o⟩
 ·have KND:Hid (Pl.ay ⟨13,1,r,m,k,e,s⟩=((((1:Int)==2)&&decide (r≤1))&&(m==7))):=hide rfl
  go_wp2_with fail
  go_ret
  exact ⟨rB (by rw [G.o,KND.o]<;>first|rfl|(simp only [hN,h6];done)|(simp only [hN,h6];rfl)|simp [hN,h6]),by first|exact K4.o|exact K3.o|exact K2.o⟩
 ·have KND:Hid (Pl.ay ⟨14,1,r,m,k,e,s⟩=(((((1:Int)==2)&&(r==0))&&decide (s≤1))&&Pl.fO m)):=hide rfl
  go_wp2_with (first|(go_at_call 139;refine st (jo _ _) ?_))
  go_ret
  exact ⟨rB (by rw [G.o,KND.o]<;>first|rfl|(simp only [hN,h6];done)|(simp only [hN,h6];rfl)|simp [hN,h6]),by first|exact K4.o|exact K3.o|exact K2.o⟩
 ·have KND:Hid (Pl.ay ⟨15,1,r,m,k,e,s⟩=(bif s==3 then (((1:Int)==2)&&(r==0))&&Pl.jA m e else ((((1:Int)==2)&&decide (s≤6))&&Pl.iF m k e)&&(decide (3<s)||(r==0)))):=hide rfl
  cases a0:(s==3)
  all_goals
   go_wp2_with (first|(go_at_call 140;refine (lJ m k e _).mono ?_;rintro e9 w3 ⟨rfl,k3⟩;rw [hN];have B3:=hide (B2.o.af k3);have K3:=hide (K2.o.trans k3);have d0:=B3.o.all;clear k3)|(go_at_call 141;have z9:=B3;refine (fB m k e _).mono ?_;rintro e9 w4 ⟨rfl,k4⟩;rw [a3];have B4:=hide (B3.o.af k4);have K4:=hide (K3.o.trans k4);have f0:=B4.o.all;clear k4)|(go_at_call 141;refine (fB m k e _).mono ?_;rintro e9 w4 ⟨rfl,k4⟩;rw [a3];have B4:=hide (B2.o.af k4);have K4:=hide (K2.o.trans k4);have f0:=B4.o.all;clear k4))
   go_ret
   exact ⟨rB (by rw [G.o,KND.o]<;>first|rfl|(simp only [a0,hN,h6];done)|(simp only [a0,hN,h6];rfl)|simp [a0,hN,h6]),by first|exact K4.o|exact K3.o|exact K2.o⟩
 ·have KND:Hid (Pl.ay ⟨16,1,r,m,k,e,s⟩=((((1:Int)==2)&&(s==0)) && !(m==1))):=hide rfl
  go_wp2_with fail
  go_ret
  exact ⟨rB (by rw [G.o,KND.o]<;>first|rfl|(simp only [hN,h6];done)|(simp only [hN,h6];rfl)|simp [hN,h6]),by first|exact K4.o|exact K3.o|exact K2.o⟩
 ·have KND:Hid (Pl.ay ⟨17,1,r,m,k,e,s⟩=((((1:Int)==2)&&(s==0)) && !(m==1))):=hide rfl
  go_wp2_with fail
  go_ret
  exact ⟨rB (by rw [G.o,KND.o]<;>first|rfl|(simp only [hN,h6];done)|(simp only [hN,h6];rfl)|simp [hN,h6]),by first|exact K4.o|exact K3.o|exact K2.o⟩
 ·have KND:Hid (Pl.ay ⟨18,1,r,m,k,e,s⟩=(((!((1:Int)==2))&&decide (s≤1))&&(m==0))):=hide rfl
  cases a1:decide (s≤1)
  all_goals
   go_wp2_with fail
   go_ret
   exact ⟨rB (by rw [G.o,KND.o]<;>first|rfl|(simp only [a1,hN,h6];done)|(simp only [a1,hN,h6];rfl)|simp [a1,hN,h6]),by first|exact K4.o|exact K3.o|exact K2.o⟩
 ·have KND:Hid (Pl.ay ⟨19,1,r,m,k,e,s⟩=(((1:Int)==2)&&((((s==0)&&(r==0))&&Pl.jA m e)||((s==1)&&Pl.iF m k e)))):=hide rfl
  go_wp2_with (first|(go_at_call 140;refine (lJ m k e _).mono ?_;rintro e9 w3 ⟨rfl,k3⟩;rw [hN];have B3:=hide (B2.o.af k3);have K3:=hide (K2.o.trans k3);have d0:=B3.o.all;clear k3)|(go_at_call 141;have z9:=B3;refine (fB m k e _).mono ?_;rintro e9 w4 ⟨rfl,k4⟩;have B4:=hide (B3.o.af k4);have K4:=hide (K3.o.trans k4);have f0:=B4.o.all;clear k4)|(go_at_call 141;refine (fB m k e _).mono ?_;rintro e9 w4 ⟨rfl,k4⟩;have B4:=hide (B2.o.af k4);have K4:=hide (K2.o.trans k4);have f0:=B4.o.all;clear k4))
  go_ret
  exact ⟨rB (by rw [G.o,KND.o]<;>first|rfl|(simp only [hN,h6];done)|(simp only [hN,h6];rfl)|simp [hN,h6]),by first|exact K4.o|exact K3.o|exact K2.o⟩
 ·obtain ⟨q1,q2,q3,q4,q5,q6,q7,q8,q9,q10,q11,q12,q13,q14,q15,q16,q17,q18,q19⟩:=hno
  have KND:Hid (Pl.ay ⟨op,1,r,m,k,e,s⟩=false):=hide (by simp [Pl.ay,q1,q2,q3,q4,q5,q6,q7,q8,q9,q10,q11,q12,q13,q14,q15,q16,q17,q18,q19])
  go_wp2_with fail
  go_ret
  exact ⟨rB (by rw [G.o,KND.o]),K2.o⟩
end Go.Proofs.YtkkmnnhaailkcaaGreatDoor
