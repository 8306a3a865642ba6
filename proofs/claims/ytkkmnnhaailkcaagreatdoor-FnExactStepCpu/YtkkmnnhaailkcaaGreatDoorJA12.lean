/- Part 12 of what the last text leans on. -/
import Derived.Test.YtkkmnnhaailkcaaGreatDoorJA8
import Derived.Test.YtkkmnnhaailkcaaGreatDoorJA9
import Derived.Test.YtkkmnnhaailkcaaGreatDoorJA10
import Derived.Test.YtkkmnnhaailkcaaGreatDoorJA11
import Derived.Test.YtkkmnnhaailkcaaGreatDoorJA7
import Derived.Deep.RegionHeld3
set_option maxRecDepth 100000
set_option maxHeartbeats 16000000
namespace Go.Proofs.YtkkmnnhaailkcaaGreatDoor
open Go.RowKit Go.Proofs.Tryz
set_option linter.unusedVariables false
set_option linter.unusedSimpArgs false
theorem lF (w:World) (op z r m k e s:Int) :
  Calls prog 102 #[.agg (inA op z r m k e s)] w fun r' w'=>r'=.returned (.bool (Pl.dF ⟨op,z,r,m,k,e,s⟩))∧Kept 0 0 w w':=by
 have K0:=hide (kept_alloc w (.cells (inA op z r m k e s) 109))
 have B0:=hide (Blk.new w (inA op z r m k e s) 109)
 cases h1:(decide (z=1)||decide (z=2))
 ·have G:Hid (Pl.dF ⟨op,z,r,m,k,e,s⟩=false):=hide (by simp only [Pl.dF,Pl.inBase,h1];rfl)
  go_enter func102,ntmps102
  go_wp2_with (first|(go_at_call 136;refine (oV _ _).mono ?_;rintro e9 w' ⟨rfl,hw⟩;have hw2:=hw.symm;clear hw;subst hw2;rw [h1]))
  go_ret
  exact ⟨rB G.o.symm,K0.o⟩
 ·cases h2:Pl.within r 0 3
  ·have G:Hid (Pl.dF ⟨op,z,r,m,k,e,s⟩=false):=hide (by simp only [Pl.dF,Pl.inBase,h1,h2];rfl)
   go_enter func102,ntmps102
   go_wp2_with (first|(go_at_call 136;refine (oV _ _).mono ?_;rintro e9 w' ⟨rfl,hw⟩;have hw2:=hw.symm;clear hw;subst hw2;rw [h1])|(go_at_call 40;refine (dW _ _ _ _).mono ?_;rintro e9 w' ⟨rfl,hw⟩;have hw2:=hw.symm;clear hw;subst hw2;rw [show (decide (0≤r)&&decide (r≤3))=Pl.within r 0 3 from rfl,h2]))
   go_ret
   exact ⟨rB G.o.symm,K0.o⟩
  ·cases h3:Pl.iT m k e
   ·have G:Hid (Pl.dF ⟨op,z,r,m,k,e,s⟩=false):=hide (by simp only [Pl.dF,Pl.inBase,h1,h2,h3];rfl)
    go_enter func102,ntmps102
    go_wp2_with (first|(go_at_call 136;refine (oV _ _).mono ?_;rintro e9 w' ⟨rfl,hw⟩;have hw2:=hw.symm;clear hw;subst hw2;rw [h1])|(go_at_call 40;refine (dW _ _ _ _).mono ?_;rintro e9 w' ⟨rfl,hw⟩;have hw2:=hw.symm;clear hw;subst hw2;rw [show (decide (0≤r)&&decide (r≤3))=Pl.within r 0 3 from rfl,h2])|(go_at_call 137;refine (dZ _ m k e).mono ?_;rintro e9 w2 ⟨rfl,k2⟩;rw [h3];have B2:=hide (B0.o.af k2);have K2:=hide (K0.o.trans k2);have c0:=B2.o.cell (i:=0) rfl;have c1:=B2.o.cell (i:=1) rfl;have c2:=B2.o.cell (i:=2) rfl;have c3:=B2.o.cell (i:=3) rfl;have c4:=B2.o.cell (i:=4) rfl;have c5:=B2.o.cell (i:=5) rfl;have c6:=B2.o.cell (i:=6) rfl;clear k2))
    go_ret
    exact ⟨rB G.o.symm,K2.o⟩
   ·cases h4:Pl.within s 0 7
    ·have G:Hid (Pl.dF ⟨op,z,r,m,k,e,s⟩=false):=hide (by simp only [Pl.dF,Pl.inBase,h1,h2,h3,h4];rfl)
     go_enter func102,ntmps102
     go_wp2_with (first|(go_at_call 40;have z9:=B2;refine (dW _ _ _ _).mono ?_;rintro e9 w' ⟨rfl,hw⟩;have hw2:=hw.symm;clear hw;subst hw2;rw [show (decide (0≤s)&&decide (s≤7))=Pl.within s 0 7 from rfl,h4])|(go_at_call 136;refine (oV _ _).mono ?_;rintro e9 w' ⟨rfl,hw⟩;have hw2:=hw.symm;clear hw;subst hw2;rw [h1])|(go_at_call 40;refine (dW _ _ _ _).mono ?_;rintro e9 w' ⟨rfl,hw⟩;have hw2:=hw.symm;clear hw;subst hw2;rw [show (decide (0≤r)&&decide (r≤3))=Pl.within r 0 3 from rfl,h2])|(go_at_call 137;refine (dZ _ m k e).mono ?_;rintro e9 w2 ⟨rfl,k2⟩;rw [h3];have B2:=hide (B0.o.af k2);have K2:=hide (K0.o.trans k2);have c0:=B2.o.cell (i:=0) rfl;have c1:=B2.o.cell (i:=1) rfl;have c2:=B2.o.cell (i:=2) rfl;have c3:=B2.o.cell (i:=3) rfl;have c4:=B2.o.cell (i:=4) rfl;have c5:=B2.o.cell (i:=5) rfl;have c6:=B2.o.cell (i:=6) rfl;clear k2))
     go_ret
     exact ⟨rB G.o.symm,K2.o⟩
    ·cases h6:(m==7)
     ·clear K0 B0
      simp at h1
      rcases h1 with rfl|rfl
      ·exact FV w op r m k e s h2 h3 h4 h6
      ·exact FU w op r m k e s h2 h3 h4 h6
     ·have hm:m=7:=by simpa using h6
      subst hm
      have h1b:=h1
      simp at h1b
      rcases h1b with rfl|rfl
      ·cases h8:decide (255<e)
       ·exact FT w op r k e s h2 h3 h4 h8
       ·have G:Hid (Pl.dF ⟨op,1,r,7,k,e,s⟩=false):=hide (by simp only [Pl.dF,Pl.inBase,Pl.lM,h2,h3,h4,h8];rfl)
        go_enter func102,ntmps102
        go_wp2_with (first|(go_at_call 40;have z9:=B2;refine (dW _ _ _ _).mono ?_;rintro e9 w' ⟨rfl,hw⟩;have hw2:=hw.symm;clear hw;subst hw2;rw [show (decide (0≤s)&&decide (s≤7))=Pl.within s 0 7 from rfl,h4])|(go_at_call 136;refine (oV _ _).mono ?_;rintro e9 w' ⟨rfl,hw⟩;have hw2:=hw.symm;clear hw;subst hw2;rw [h1])|(go_at_call 40;refine (dW _ _ _ _).mono ?_;rintro e9 w' ⟨rfl,hw⟩;have hw2:=hw.symm;clear hw;subst hw2;rw [show (decide (0≤r)&&decide (r≤3))=Pl.within r 0 3 from rfl,h2])|(go_at_call 137;refine (dZ _ 7 k e).mono ?_;rintro e9 w2 ⟨rfl,k2⟩;rw [h3];have B2:=hide (B0.o.af k2);have K2:=hide (K0.o.trans k2);have c0:=B2.o.cell (i:=0) rfl;have c1:=B2.o.cell (i:=1) rfl;have c2:=B2.o.cell (i:=2) rfl;have c3:=B2.o.cell (i:=3) rfl;have c4:=B2.o.cell (i:=4) rfl;have c5:=B2.o.cell (i:=5) rfl;have c6:=B2.o.cell (i:=6) rfl;clear k2))
        go_ret
        exact ⟨rB G.o.symm,K2.o⟩
      ·exact FQ w op r k e s h2 h3 h4
set_option linter.unusedSimpArgs false
theorem kR (n:Int) (w:World) (h0:0≤n) (h1:n≤65535):Calls prog 100 #[iv n] w fun e' w'=>e'=.returned (iv (Pl.fD n))∧w'=w:=by
 have hA:=Pl.and7 (n/32)
 cases hE:Pl.jS (n/32%8)
 all_goals
  go_enter func100,ntmps100
  go_wp2_with (first|(go_at_call 135;refine (pg _ _).mono ?_;rintro e9 w' ⟨rfl,hw⟩;have hw2:=hw.symm;clear hw;subst hw2;rw [hE]))
  go_ret
  exact ⟨rI (by simp [Pl.fD,hE]),rfl⟩
theorem oW (w:World) (op z r m k e s:Int):Calls prog 69 #[.agg (inA op z r m k e s)] w fun e' w'=>e'=.returned (.bool (Pl.iR ⟨op,z,r,m,k,e,s⟩))∧Kept 0 0 w w':=by
 have K0:=hide (kept_alloc w (.cells (inA op z r m k e s) 109))
 cases q1:(op==15)<;>cases q2:(s==1)<;>cases q3:(s==3)<;>cases q4:(op==19)<;>cases q5:(s==0)
 all_goals
  go_enter func69,ntmps69
  go_wp2_with fail
  go_ret
  exact ⟨rB (by simp only [Pl.iR,q1,q2,q3,q4,q5];rfl),K0.o⟩
theorem nJ (w:World) (n v:Int) (h0:0≤n) (h1:n≤65535):Calls prog 101 #[iv n,iv v] w fun e' w'=>e'=.returned (.agg #[iv (Pl.decode n v).op,iv (Pl.decode n v).z,iv (Pl.decode n v).r,iv (Pl.decode n v).m,iv (Pl.decode n v).k,iv (Pl.decode n v).e,iv (Pl.decode n v).s])∧Kept 0 0 w w':=by
 have A1:=Pl.and1 (n/1024)
 have A2:=Pl.Wq (n/256)
 have A3:=Pl.and7 (n/32)
 have A4:=Pl.Wq (n/8)
 have A5:=Pl.and7 n
 by_cases hL:Pl.fD n=2
 ·have E:Hid (Pl.decode n v=⟨n/2048,n/1024%2+1,n/256%4,n/32%8,n/8%4,v,n%8⟩):=hide (by simp [Pl.decode,hL])
  go_enter func101,ntmps101
  go_wp2_with (first|(go_at_call 100;refine (kR _ _ h0 h1).mono ?_;rintro e9 w' ⟨rfl,hw⟩;have hw2:=hw.symm;clear hw;subst hw2;rw [hL]))
  refine bodyPost_ret (v:=.agg (inA (n/2048) (n/1024%2+1) (n/256%4) (n/32%8) (n/8%4) v (n%8))) ?_ rfl ⟨by rw [E.o],?_⟩
  ·rw [aj rfl];go_simp
  ·repeat' (first|exact Kept.refl _ _ _|refine ah ?_ _|refine ag ?_ _ _ _ (.inr (by omega)))
 ·have E:Hid (Pl.decode n v=⟨n/2048,n/1024%2+1,n/256%4,n/32%8,n/8%4,0,n%8⟩):=hide (by simp [Pl.decode,hL])
  have hL2:Pl.fD n=1:=by unfold Pl.fD at hL ⊢;split at hL<;>simp_all
  go_enter func101,ntmps101
  go_wp2_with (first|(go_at_call 100;refine (kR _ _ h0 h1).mono ?_;rintro e9 w' ⟨rfl,hw⟩;have hw2:=hw.symm;clear hw;subst hw2;rw [hL2]))
  refine bodyPost_ret (v:=.agg (inA (n/2048) (n/1024%2+1) (n/256%4) (n/32%8) (n/8%4) 0 (n%8))) ?_ rfl ⟨by rw [E.o],?_⟩
  ·rw [aj rfl];go_simp
  ·repeat' (first|exact Kept.refl _ _ _|refine ah ?_ _|refine ag ?_ _ _ _ (.inr (by omega)))
namespace Pl
structure InB (x:In):Prop where
 z:x.z=1∨x.z=2
 r0:0≤x.r
 r1:x.r≤3
 m0:0≤x.m
 m1:x.m≤7
 k0:0≤x.k
 k1:x.k≤3
 e0:0≤x.e
 e1:x.e≤65535
 s0:0≤x.s
 s1:x.s≤7
 n7:x.m=7→okv x.z x.e=true
theorem vJ {x:In} (h:dF x=true):InB x:=by
 simp only [dF,inBase,iT,dB,aS,within,lM,Bool.and_eq_true,Bool.or_eq_true,decide_eq_true_eq,Bool.not_eq_true',Bool.and_eq_false_iff,beq_iff_eq,decide_eq_false_iff_not,beq_eq_false_iff_ne] at h
 obtain ⟨⟨hz,⟨r0,r1⟩,⟨⟨m0,m1⟩,⟨k0,k1⟩,_,⟨e0,e1⟩,_⟩,⟨s0,s1⟩,hb⟩,_⟩:=h
 refine ⟨hz,r0,r1,m0,m1,k0,k1,e0,e1,s0,s1,fun h7 => ?_⟩
 rcases hz with hz|hz
 ·rw [hz];simp [okv,top];omega
 ·rw [hz];simp [okv,top];omega
theorem GM.read {c:Mc} (h:GM c) {z m k e:Int} (hz:z=1∨z=2) (k0:0≤k) (k1:k≤3) (e0:0≤e) (e1:e≤65535):GM (c.read z m k e):=by
 unfold Mc.read
 cases Mc.gI m
 ·have q:=iM h.g (z:=z) (m:=m) k0 k1 e0 e1
  exact (h.plc k0 k1).acc (yK hz q.1 q.2)
 ·exact h
theorem GM.place {c:Mc} (h:GM c) {z m k e:Int} (k0:0≤k) (k1:k≤3):GM (c.place z m k e):=by
 unfold Mc.place
 cases m==0
 ·exact h.plc k0 k1
 ·exact h
theorem ql {c:Mc} (h:GM c) {z m k e:Int} (k0:0≤k) (k1:k≤3) (e0:0≤e) (e1:e≤65535):0≤c.iL z m k e∧c.iL z m k e≤65535:=by
 unfold Mc.iL
 cases m==0
 ·exact iM h.g k0 k1 e0 e1
 ·exact ⟨Int.le_refl 0,(by decide:(0:Int)≤65535)⟩
theorem di {c:Mc} (h:GM c) {z m k e:Int} (hz:z=1∨z=2) (k0:0≤k) (k1:k≤3) (e0:0≤e) (e1:e≤65535) (h1:m=1→z=2) (h7:m=7→okv z e=true):okv z (c.aY z m k e)=true:=by
 unfold Mc.aY
 cases q0:(m==0)
 ·cases q1:(m==1)
  ·cases q7:(m==7)
   ·have q:=iM h.g (z:=z) (m:=m) k0 k1 e0 e1
    exact (h.plc k0 k1).jE (yK hz q.1 q.2)
   ·exact h7 (by simpa using q7)
  ·have e:=h1 (by simpa using q1)
   subst e
   have q:=h.g.aw k.toNat (by omega)
   show okv 2 (el c.r.ys k.toNat)=true
   simp [okv,top];omega
 ·exact fJ h hz k0 k1
theorem zh (r:Rg) (z m k e:Int):(cZ r z m k e).f=r.f:=by
 unfold cZ;split
 ·rfl
 ·split<;>rfl
theorem xC (c:Mc) (z m k e:Int):(c.read z m k e).r.f=c.r.f:=by
 unfold Mc.read;cases Mc.gI m
 ·exact zh c.r z m k e
 ·rfl
theorem xH (c:Mc) (z m k e:Int):(c.place z m k e).r.f=c.r.f:=by
 unfold Mc.place;cases m==0
 ·exact zh c.r z m k e
 ·rfl
theorem xG (c:Mc) (z m k e:Int):(c.place z m k e).r.p=c.r.p:=by
 unfold Mc.place;cases m==0
 ·exact qZ c.r z m k e
 ·rfl
theorem uK {z a b:Int} (ha:okv z a=true) (hb:okv z b=true):two z 0 a b=true:=by unfold two;rw [ha,hb];rfl
theorem vk {z a b:Int} (ha:okv z a=true):okv z (qP z 0 a b)=true:=by
 have:=aP ha
 unfold qP
 split
 ·rcases this.1 with ⟨rfl,e⟩|⟨rfl,e⟩<;>rw [e]<;>simp [okv,top]<;>omega
 ·rcases this.1 with ⟨rfl,e⟩|⟨rfl,e⟩<;>simp [okv,top]
theorem mP {z a b:Int} (hz:z=1∨z=2):okv z (kQ z 0 a b)=true:=by
 unfold kQ
 split
 ·rcases hz with rfl|rfl<;>simp [okv,top]<;>omega
 ·rcases hz with rfl|rfl<;>simp [okv,top]
theorem kM (n:Nat) (h:n<65536):(BitVec.ofInt 64 (n:Int)).toNat=n:=by rw [BitVec.toNat_ofInt];omega
theorem bits_nat (a b:Nat) (ha:a<65536) (hb:b<65536):bits .and .i64 (a:Int) (b:Int)=((a &&& b:Nat):Int)∧bits .or .i64 (a:Int) (b:Int)=((a ||| b:Nat):Int)∧bits .xor .i64 (a:Int) (b:Int)=((a ^^^ b:Nat):Int):=by
 have h1:a &&& b<2^16:=Nat.and_lt_two_pow a hb
 have h2:a ||| b<2^16:=Nat.or_lt_two_pow ha hb
 have h3:a ^^^ b<2^16:=Nat.xor_lt_two_pow ha hb
 refine ⟨?_,?_,?_⟩
 ·show IntKind.i64.wrap ((BitVec.ofInt 64 a &&& BitVec.ofInt 64 b).toNat:Int)=_
  rw [BitVec.toNat_and,kM a ha,kM b hb,IntKind.wrap_i64];omega
 ·show IntKind.i64.wrap ((BitVec.ofInt 64 a ||| BitVec.ofInt 64 b).toNat:Int)=_
  rw [BitVec.toNat_or,kM a ha,kM b hb,IntKind.wrap_i64];omega
 ·show IntKind.i64.wrap ((BitVec.ofInt 64 a ^^^ BitVec.ofInt 64 b).toNat:Int)=_
  rw [BitVec.toNat_xor,kM a ha,kM b hb,IntKind.wrap_i64];omega
theorem mQ {z a b:Int} (ha:okv z a=true) (hb:okv z b=true):okv z (bits .and .i64 a b)=true∧okv z (bits .or .i64 a b)=true∧okv z (bits .xor .i64 a b)=true:=by
 have t1:=aP ha
 have t2:=aP hb
 obtain ⟨x,rfl⟩:∃x:Nat,a=(x:Int):=⟨a.toNat,by omega⟩
 obtain ⟨y,rfl⟩:∃y:Nat,b=(y:Int):=⟨b.toNat,by omega⟩
 obtain ⟨e1,e2,e3⟩:=bits_nat x y (by omega) (by omega)
 rw [e1,e2,e3]
 rcases t1.1 with ⟨rfl,e⟩|⟨rfl,e⟩<;>rw [e] at t1 t2
 ·have h1:x &&& y<2^8:=Nat.and_lt_two_pow x (by omega)
  have h2:x ||| y<2^8:=Nat.or_lt_two_pow (by omega) (by omega)
  have h3:x ^^^ y<2^8:=Nat.xor_lt_two_pow (by omega) (by omega)
  simp [okv,top];omega
 ·have h1:x &&& y<2^16:=Nat.and_lt_two_pow x (by omega)
  have h2:x ||| y<2^16:=Nat.or_lt_two_pow (by omega) (by omega)
  have h3:x ^^^ y<2^16:=Nat.xor_lt_two_pow (by omega) (by omega)
  simp [okv,top];omega
end Pl
theorem SA {z a b:Int} (w:World) (ha:Pl.okv z a=true) (hb:Pl.okv z b=true):Calls prog 157 #[iv z,iv 0,iv a,iv b] w fun e w'=>e=.returned (.tuple #[iv (Pl.qP z 0 a b),iv (Pl.ji z 0 a b)])∧w'=w:=by
 have h2:=Pl.uK ha hb
 have t1:=Pl.aP ha
 have t2:=Pl.aP hb
 unfold Pl.qP Pl.ji
 rw [if_pos h2,if_pos h2]
 rcases t1.1 with ⟨rfl,e⟩|⟨rfl,e⟩
 ·rw [e] at t1 t2 ⊢;exact SC 0 a b w (by omega) (by omega) (by omega) (by omega) (by omega) (by omega)
 ·rw [e] at t1 t2 ⊢;exact SB 0 a b w (by omega) (by omega) (by omega) (by omega) (by omega) (by omega)
theorem Sz {z f a b:Int} (w:World) (ha:Pl.okv z a=true) (hb:Pl.okv z b=true) (hf:Pl.flags f=true):Calls prog 158 #[iv z,iv f,iv a,iv b] w fun e w'=>e=.returned (iv (Pl.oG z f a b))∧w'=w:=by
 have h2:=Pl.uK ha hb
 have e:Pl.oG z f a b=bits .or .i64 (bits .and .i64 (Pl.gz z 0 a b) 15) (bits .and .i64 f 16):=by unfold Pl.oG;rw [h2,hf];rfl
 rw [e]
 exact VH z f a b w h2
theorem cellsS {W:World} {p gd cd ga ca g1 c1 g2 c2 b:Nat} {c:Pl.Mc} {x:Pl.In} {ty:TypeId} (hB:MB W p gd cd ga ca g1 c1 g2 c2 c) (hX:Blk W b (lY x) ty):W.cell? ⟨p,0,none⟩=some (.slice (some ⟨gd,0,none⟩) 4 cd)∧W.cell? ⟨p,1,none⟩=some (.slice (some ⟨ga,0,none⟩) 4 ca)∧W.cell? ⟨p,2,none⟩=some (iv c.r.o)∧W.cell? ⟨p,3,none⟩=some (iv c.r.p)∧W.cell? ⟨p,4,none⟩=some (iv c.r.f)∧W.cell? ⟨p,5,none⟩=some (iv c.r.m)∧W.cell? ⟨p,6,none⟩=some (.bool c.r.s)∧W.cell? ⟨p,7,none⟩=some (.bool c.r.t)∧W.cell? ⟨b,1,none⟩=some (iv x.z)∧W.cell? ⟨b,2,none⟩=some (iv x.r):=by
 obtain ⟨t0,t1,t2,t3,t4,t5,t6,t7,_⟩:=hB.cells
 obtain ⟨b0,b1,b2,b3,b4,b5,b6⟩:=aF hX
 exact ⟨t0,t1,t2,t3,t4,t5,t6,t7,b1,b2⟩
theorem N9 (w:World) (lo mid hi p g2:Nat) (c:Pl.Mc) (x:Pl.In) (h:MAt w lo mid hi p g2 c) (G:Pl.GM c) (B:Pl.InB x) (h1:x.m=1→x.z=2) (hf:(c.read x.z x.m x.k x.e).fine=false) :
  Calls prog 116 #[.pointer (some ⟨p,0,none⟩),.agg (inX x)] w fun e w'=>e=.returned (.tuple #[])∧∃g3,MAt w' lo mid hi p g3 (c.two x)∧Since w lo hi g2 w' g3:=by
 have HG:=hide G
 have HI:=hide B
 have HV:=hide (Pl.di G B.z B.k0 B.k1 B.e0 B.e1 h1 B.n7)
 have HG1:=hide (G.read (m:=x.m) B.z B.k0 B.k1 B.e0 B.e1)
 have hl:=h.lo
 obtain ⟨X,hX,KA,HX,hbw,HHB,HGB,HPH,HPB,HMH,HS,HM⟩:=h.dL x
 obtain ⟨b0,b1,b2,b3,b4,b5,b6⟩:=aF HX.o
 clear h
 obtain ⟨gd,cd,ga,ca,g1,c1,c2,HB,HO⟩:=HM.o.op
 clear G B h1
 have E:Hid (c.two x=c.read x.z x.m x.k x.e):=hide (by unfold Pl.Mc.two;rw [hf];rfl)
 go_enter func116,ntmps116
 go_wp2_with (first|(go_at_call 103;refine (jJ _ lo mid hi p g2 c x.z x.m x.k x.e HM.o HG.o HI.o.z HI.o.k0 HI.o.k1 HI.o.e0 HI.o.e1 HI.o.m0 HI.o.m1).mono ?_;rintro e9 W_1 ⟨rfl,aT,hm9,hb9⟩;obtain ⟨bg,bY,bI⟩:=hb9.nx HX HHB HGB HS;clear hb9;have aW:=hide hm9;obtain ⟨bQ,bU,bT,bV,eu,eP,eG,aX,bu⟩:=hm9.op;obtain ⟨lS,kW,oC,kC,oz,ou,oh,og⟩:=aX.o.c8;clear b0 b1 b2 b3 b4 b5 b6;obtain ⟨b0,b1,b2,b3,b4,b5,b6⟩:=aF bg.o)|(go_at_call 68;refine st (bK _ lo mid hi p aT _ aW.o) ?_;rw [hf]))
 first|go_end0|refine bodyPost_ret (results_none rfl _ _ _) rfl ?_
 exact ⟨rfl,aT,by rw [E.o];exact aW.o,bI.o⟩
theorem IV (w:World) (lo mid hi p g2:Nat) (c:Pl.Mc) (x:Pl.In) (h:MAt w lo mid hi p g2 c) (G:Pl.GM c) (B:Pl.InB x) (h1:x.m=1→x.z=2) (hf:(c.read x.z x.m x.k x.e).fine=true) (ho:x.op=8) :
  Calls prog 116 #[.pointer (some ⟨p,0,none⟩),.agg (inX x)] w fun e w'=>e=.returned (.tuple #[])∧∃g3,MAt w' lo mid hi p g3 (c.two x)∧Since w lo hi g2 w' g3:=by
 have HG:=hide G
 have HI:=hide B
 have HV:=hide (Pl.di G B.z B.k0 B.k1 B.e0 B.e1 h1 B.n7)
 have HG1:=hide (G.read (m:=x.m) B.z B.k0 B.k1 B.e0 B.e1)
 have HOP:=hide ho
 clear ho
 have hl:=h.lo
 obtain ⟨X,hX,KA,HX,hbw,HHB,HGB,HPH,HPB,HMH,HS,HM⟩:=h.dL x
 obtain ⟨b0,b1,b2,b3,b4,b5,b6⟩:=aF HX.o
 rw [HOP.o] at b0
 clear h
 obtain ⟨gd,cd,ga,ca,g1,c1,c2,HB,HO⟩:=HM.o.op
 clear G B h1
 have HQ:Hid (el (c.read x.z x.m x.k x.e).r.xs x.r.toNat%Pl.top x.z=(c.read x.z x.m x.k x.e).low x.z x.r):=hide rfl
 have HQ0:=Pl.fJ HG1.o HI.o.z HI.o.r0 HI.o.r1
 obtain ⟨d,hd⟩:∃d,c.read x.z x.m x.k x.e=d:=⟨_,rfl⟩
 obtain ⟨v,hv⟩:∃v,c.aY x.z x.m x.k x.e=v:=⟨_,rfl⟩
 have E:Hid (c.two x=d.two' x (d.low x.z x.r) v):=hide (by unfold Pl.Mc.two;rw [hf,hd,hv];rfl)
 have HRD:=fun w9 h9=>jJ w9 lo mid hi p g2 c x.z x.m x.k x.e h9 HG.o HI.o.z HI.o.k0 HI.o.k1 HI.o.e0 HI.o.e1 HI.o.m0 HI.o.m1
 rw [hd] at hf HG1 HQ HQ0
 rw [hv] at HV
 simp only [hd,hv] at HRD
 clear hd hv
 obtain ⟨q,hq⟩:∃q,d.low x.z x.r=q:=⟨_,rfl⟩
 rw [hq] at E HQ HQ0
 clear hq
 have HF:=hide (Pl.bG HG1.o)
 have HVQ:=hide HQ0
 have E2:Hid (d.two' x q v=d.aB (Pl.oG x.z d.r.f q v)):=hide (by unfold Pl.Mc.two';rw [HOP.o];rfl)
 go_enter func116,ntmps116
 go_wp2_with (first|(go_at_call 103;refine (HRD _ HM.o).mono ?_;rintro e9 W_1 ⟨rfl,aT,hm9,hb9⟩;obtain ⟨bg,bY,bI⟩:=hb9.nx HX HHB HGB HS;clear hb9;have aW:=hide hm9;obtain ⟨bQ,bU,bT,bV,eu,eP,eG,aX,bu⟩:=hm9.op;obtain ⟨lS,kW,oC,kC,oz,ou,oh,og⟩:=aX.o.c8;clear b0 b1 b2 b3 b4 b5 b6;obtain ⟨b0,b1,b2,b3,b4,b5,b6⟩:=aF bg.o;rw [HOP.o] at b0)|(go_at_call 68;refine st (bK _ lo mid hi p aT _ aW.o) ?_;rw [hf]))
 have HD:=hide (bu.o.any (ae (Kept.refl 0 0 W_1))).d
 have S1D:=cellsS (aX.o.any (ae (Kept.refl 0 0 W_1))) (bg.o.af (ae (Kept.refl 0 0 W_1)))
 go_region_held3 (fun w'=>w'.cell? ⟨p,0,none⟩=some (.slice (some ⟨bQ,0,none⟩) 4 bU)∧w'.cell? ⟨p,1,none⟩=some (.slice (some ⟨bT,0,none⟩) 4 bV)∧w'.cell? ⟨p,2,none⟩=some (iv d.r.o)∧w'.cell? ⟨p,3,none⟩=some (iv d.r.p)∧w'.cell? ⟨p,4,none⟩=some (iv d.r.f)∧w'.cell? ⟨p,5,none⟩=some (iv d.r.m)∧w'.cell? ⟨p,6,none⟩=some (.bool d.r.s)∧w'.cell? ⟨p,7,none⟩=some (.bool d.r.t)∧w'.cell? ⟨w.heap.size,1,none⟩=some (iv x.z)∧w'.cell? ⟨w.heap.size,2,none⟩=some (iv x.r)) (first|with_reducible exact S1D|with_reducible exact cellsS aN.o dM.o|go_keep) (first|(go_at_call 105;refine (wF _ bQ bU bT bV d.r x.z x.r HD.o HG1.o.g HI.o.z HI.o.r0 HI.o.r1).mono ?_;rw [HQ.o];rintro e9 W_2 ⟨rfl,hk9⟩;have K2:=hide ((ae (Kept.refl 0 0 W_1)).trans hk9);clear hk9;have gZ:=hide (aW.o.any K2.o);have aN:=hide (aX.o.any K2.o);have iq:=hide (bu.o.any K2.o);have dM:=hide (bg.o.af K2.o);have gX:=hide (bI.o.any K2.o);obtain ⟨xy,xx,xw,uM,rZ,xu,xq,xn,rY,rX,mJ,mG,mF,mD,mi,mg⟩:=aN.o.cells;clear rY rX mJ mG mF mD mi mg;have yu:=aN.o.frozen 0;have yt:=aN.o.frozen 1;have yl:=aN.o.frozen 2;have vO:=aN.o.frozen 3;have sZ:=aN.o.frozen 4;have yj:=aN.o.frozen 5;have yh:=aN.o.frozen 6;have yg:=aN.o.frozen 7;clear b0 b1 b2 b3 b4 b5 b6;obtain ⟨b0,b1,b2,b3,b4,b5,b6⟩:=aF dM.o;rw [HOP.o] at b0;clear lS kW oC kC oz ou oh og))
 go_wp2_with (go_at_call 158;refine st (Sz _ HVQ.o HV.o HF.o) ?_)
 first|go_end0|refine bodyPost_ret (results_none rfl _ _ _) rfl ?_
 exact ⟨rfl,aT,by rw [E.o,E2.o];exact gZ.o.cF _,gX.o.set p 4 _ HPH.o⟩
theorem IX (w:World) (lo mid hi p g2:Nat) (c:Pl.Mc) (x:Pl.In) (h:MAt w lo mid hi p g2 c) (G:Pl.GM c) (B:Pl.InB x) (h1:x.m=1→x.z=2) (hf:(c.read x.z x.m x.k x.e).fine=true) (ho:x.op=3) :
  Calls prog 116 #[.pointer (some ⟨p,0,none⟩),.agg (inX x)] w fun e w'=>e=.returned (.tuple #[])∧∃g3,MAt w' lo mid hi p g3 (c.two x)∧Since w lo hi g2 w' g3:=by
 have HG:=hide G
 have HI:=hide B
 have HV:=hide (Pl.di G B.z B.k0 B.k1 B.e0 B.e1 h1 B.n7)
 have HG1:=hide (G.read (m:=x.m) B.z B.k0 B.k1 B.e0 B.e1)
 have HOP:=hide ho
 clear ho
 have hl:=h.lo
 obtain ⟨X,hX,KA,HX,hbw,HHB,HGB,HPH,HPB,HMH,HS,HM⟩:=h.dL x
 obtain ⟨b0,b1,b2,b3,b4,b5,b6⟩:=aF HX.o
 rw [HOP.o] at b0
 clear h
 obtain ⟨gd,cd,ga,ca,g1,c1,c2,HB,HO⟩:=HM.o.op
 clear G B h1
 have HQ:Hid (el (c.read x.z x.m x.k x.e).r.xs x.r.toNat%Pl.top x.z=(c.read x.z x.m x.k x.e).low x.z x.r):=hide rfl
 have HQ0:=Pl.fJ HG1.o HI.o.z HI.o.r0 HI.o.r1
 obtain ⟨d,hd⟩:∃d,c.read x.z x.m x.k x.e=d:=⟨_,rfl⟩
 obtain ⟨v,hv⟩:∃v,c.aY x.z x.m x.k x.e=v:=⟨_,rfl⟩
 have E:Hid (c.two x=d.two' x (d.low x.z x.r) v):=hide (by unfold Pl.Mc.two;rw [hf,hd,hv];rfl)
 have HRD:=fun w9 h9=>jJ w9 lo mid hi p g2 c x.z x.m x.k x.e h9 HG.o HI.o.z HI.o.k0 HI.o.k1 HI.o.e0 HI.o.e1 HI.o.m0 HI.o.m1
 rw [hd] at hf HG1 HQ HQ0
 rw [hv] at HV
 simp only [hd,hv] at HRD
 clear hd hv
 obtain ⟨q,hq⟩:∃q,d.low x.z x.r=q:=⟨_,rfl⟩
 rw [hq] at E HQ HQ0
 clear hq
 have HF:=hide (Pl.bG HG1.o)
 have HVQ:=hide HQ0
 have E2:Hid (d.two' x q v=(d.aB (Pl.ji x.z 0 q v)).put x.z x.r (Pl.qP x.z 0 q v)):=hide (by unfold Pl.Mc.two';rw [HOP.o];rfl)
 have HVV:Hid (Pl.okv x.z (Pl.qP x.z 0 q v)=true):=hide (Pl.vk HVQ.o)
 have HGF:=hide (HG1.o.aB (v:=Pl.ji x.z 0 q v) (Pl.yM x.z 0 q v).1 (Pl.yM x.z 0 q v).2).g
 go_enter func116,ntmps116
 go_wp2_with (first|(go_at_call 103;refine (HRD _ HM.o).mono ?_;rintro e9 W_1 ⟨rfl,aT,hm9,hb9⟩;obtain ⟨bg,bY,bI⟩:=hb9.nx HX HHB HGB HS;clear hb9;have aW:=hide hm9;obtain ⟨bQ,bU,bT,bV,eu,eP,eG,aX,bu⟩:=hm9.op;obtain ⟨lS,kW,oC,kC,oz,ou,oh,og⟩:=aX.o.c8;clear b0 b1 b2 b3 b4 b5 b6;obtain ⟨b0,b1,b2,b3,b4,b5,b6⟩:=aF bg.o;rw [HOP.o] at b0)|(go_at_call 68;refine st (bK _ lo mid hi p aT _ aW.o) ?_;rw [hf]))
 have HD:=hide (bu.o.any (ae (Kept.refl 0 0 W_1))).d
 have S1D:=cellsS (aX.o.any (ae (Kept.refl 0 0 W_1))) (bg.o.af (ae (Kept.refl 0 0 W_1)))
 go_region_held3 (fun w'=>w'.cell? ⟨p,0,none⟩=some (.slice (some ⟨bQ,0,none⟩) 4 bU)∧w'.cell? ⟨p,1,none⟩=some (.slice (some ⟨bT,0,none⟩) 4 bV)∧w'.cell? ⟨p,2,none⟩=some (iv d.r.o)∧w'.cell? ⟨p,3,none⟩=some (iv d.r.p)∧w'.cell? ⟨p,4,none⟩=some (iv d.r.f)∧w'.cell? ⟨p,5,none⟩=some (iv d.r.m)∧w'.cell? ⟨p,6,none⟩=some (.bool d.r.s)∧w'.cell? ⟨p,7,none⟩=some (.bool d.r.t)∧w'.cell? ⟨w.heap.size,1,none⟩=some (iv x.z)∧w'.cell? ⟨w.heap.size,2,none⟩=some (iv x.r)) (first|with_reducible exact S1D|with_reducible exact cellsS aN.o dM.o|go_keep) (first|(go_at_call 105;refine (wF _ bQ bU bT bV d.r x.z x.r HD.o HG1.o.g HI.o.z HI.o.r0 HI.o.r1).mono ?_;rw [HQ.o];rintro e9 W_2 ⟨rfl,hk9⟩;have K2:=hide ((ae (Kept.refl 0 0 W_1)).trans hk9);clear hk9;have gZ:=hide (aW.o.any K2.o);have aN:=hide (aX.o.any K2.o);have iq:=hide (bu.o.any K2.o);have dM:=hide (bg.o.af K2.o);have gX:=hide (bI.o.any K2.o);obtain ⟨xy,xx,xw,uM,rZ,xu,xq,xn,rY,rX,mJ,mG,mF,mD,mi,mg⟩:=aN.o.cells;clear rY rX mJ mG mF mD mi mg;have yu:=aN.o.frozen 0;have yt:=aN.o.frozen 1;have yl:=aN.o.frozen 2;have vO:=aN.o.frozen 3;have sZ:=aN.o.frozen 4;have yj:=aN.o.frozen 5;have yh:=aN.o.frozen 6;have yg:=aN.o.frozen 7;clear b0 b1 b2 b3 b4 b5 b6;obtain ⟨b0,b1,b2,b3,b4,b5,b6⟩:=aF dM.o;rw [HOP.o] at b0;clear lS kW oC kC oz ou oh og))
 go_wp2_with ((go_at_call 157;refine st (SA _ HVQ.o HV.o) ?_))
 have HBY:=hide ((aN.o.cF (Pl.ji x.z 0 q v)).any (ae (Kept.refl 0 0 (W_2.setCell ⟨p,4,none⟩ (iv (Pl.ji x.z 0 q v))))))
 have HOY:=hide ((iq.o.own (ak _ p 4 (iv (Pl.ji x.z 0 q v)))).any (ae (Kept.refl 0 0 (W_2.setCell ⟨p,4,none⟩ (iv (Pl.ji x.z 0 q v))))))
 have HSY:=hide ((gX.o.set p 4 (iv (Pl.ji x.z 0 q v)) HPH.o).drew)
 have HXY:=hide ((dM.o.other p 4 (iv (Pl.ji x.z 0 q v)) (by have:=HPB.o;omega)).af (ae (Kept.refl 0 0 (W_2.setCell ⟨p,4,none⟩ (iv (Pl.ji x.z 0 q v))))))
 have HRY:=hide (MO.reg (r:=(d.aB (Pl.ji x.z 0 q v)).r) HOY.o)
 have HMY:Hid (mid≤(W_2.setCell ⟨p,4,none⟩ (iv (Pl.ji x.z 0 q v))).drew.heap.size):=hide (Nat.le_trans HMH.o HOY.o.hh)
 have HPM:=HOY.o.p0
 have HNM:Hid (¬(lo≤w.heap.size∧w.heap.size<mid)):=hide (by have:=HHB.o;have:=HMH.o;omega)
 have HNP:Hid (¬(p≤w.heap.size∧w.heap.size<p+1)):=hide (by have:=HPB.o;omega)
 have SYD:=cellsS HBY.o HXY.o
 go_region_held3 (fun w'=>w'.cell? ⟨p,0,none⟩=some (.slice (some ⟨bQ,0,none⟩) 4 bU)∧w'.cell? ⟨p,1,none⟩=some (.slice (some ⟨bT,0,none⟩) 4 bV)∧w'.cell? ⟨p,2,none⟩=some (iv (d.aB (Pl.ji x.z 0 q v)).r.o)∧w'.cell? ⟨p,3,none⟩=some (iv (d.aB (Pl.ji x.z 0 q v)).r.p)∧w'.cell? ⟨p,4,none⟩=some (iv (d.aB (Pl.ji x.z 0 q v)).r.f)∧w'.cell? ⟨p,5,none⟩=some (iv (d.aB (Pl.ji x.z 0 q v)).r.m)∧w'.cell? ⟨p,6,none⟩=some (.bool (d.aB (Pl.ji x.z 0 q v)).r.s)∧w'.cell? ⟨p,7,none⟩=some (.bool (d.aB (Pl.ji x.z 0 q v)).r.t)∧w'.cell? ⟨w.heap.size,1,none⟩=some (iv x.z)∧w'.cell? ⟨w.heap.size,2,none⟩=some (iv x.r)) (first|with_reducible exact SYD|with_reducible exact cellsS aG.o jd.o|exact cellsS (aG.o.laid (Pl.jr (d.aB (Pl.ji x.z 0 q v)).r x.z x.r (Pl.qP x.z 0 q v))) (Blk.kept jd.o (MB.jb _ _ _ _ _ _ _ _) HNP.o)|go_keep) (first|(go_at_call 110;refine (qG _ lo mid bQ bU bT bV (d.aB (Pl.ji x.z 0 q v)).r x.z x.r (Pl.qP x.z 0 q v) HRY.o HMY.o HGF.o HI.o.r0 HI.o.r1 HVV.o).mono ?_;unfold iK;rintro e9 W_9 ⟨rfl,hr9,hk9⟩;have jU:=hide (HOY.o.regs hr9 hk9);have aG:=hide (HBY.o.regs hk9 HPM);have jd:=hide (Blk.kept HXY.o hk9 HNM.o);have jT:=hide (HSY.o.ai hk9 (Nat.le_refl _) HMH.o);clear hr9 hk9;obtain ⟨u0,u1,u2,u3,u4,u5,u6,u7,_⟩:=aG.o.cells;have f0:=aG.o.frozen 0;have f1:=aG.o.frozen 1;have f2:=aG.o.frozen 2;have f3:=aG.o.frozen 3;have f4:=aG.o.frozen 4;have f5:=aG.o.frozen 5;have f6:=aG.o.frozen 6;have f7:=aG.o.frozen 7))
 go_wp2_with fail
 first|go_end0|refine bodyPost_ret (results_none rfl _ _ _) rfl ?_
 exact ⟨rfl,aT,by rw [E.o,E2.o];exact MAt.laid aG.o jU.o,fG jT.o HPH.o _ _ _ _ _ _ _ _⟩
theorem IU (w:World) (lo mid hi p g2:Nat) (c:Pl.Mc) (x:Pl.In) (h:MAt w lo mid hi p g2 c) (G:Pl.GM c) (B:Pl.InB x) (h1:x.m=1→x.z=2) (hf:(c.read x.z x.m x.k x.e).fine=true) (ho:x.op=4) :
  Calls prog 116 #[.pointer (some ⟨p,0,none⟩),.agg (inX x)] w fun e w'=>e=.returned (.tuple #[])∧∃g3,MAt w' lo mid hi p g3 (c.two x)∧Since w lo hi g2 w' g3:=by
 have HG:=hide G
 have HI:=hide B
 have HV:=hide (Pl.di G B.z B.k0 B.k1 B.e0 B.e1 h1 B.n7)
 have HG1:=hide (G.read (m:=x.m) B.z B.k0 B.k1 B.e0 B.e1)
 have HOP:=hide ho
 clear ho
 have hl:=h.lo
 obtain ⟨X,hX,KA,HX,hbw,HHB,HGB,HPH,HPB,HMH,HS,HM⟩:=h.dL x
 obtain ⟨b0,b1,b2,b3,b4,b5,b6⟩:=aF HX.o
 rw [HOP.o] at b0
 clear h
 obtain ⟨gd,cd,ga,ca,g1,c1,c2,HB,HO⟩:=HM.o.op
 clear G B h1
 have HQ:Hid (el (c.read x.z x.m x.k x.e).r.xs x.r.toNat%Pl.top x.z=(c.read x.z x.m x.k x.e).low x.z x.r):=hide rfl
 have HQ0:=Pl.fJ HG1.o HI.o.z HI.o.r0 HI.o.r1
 obtain ⟨d,hd⟩:∃d,c.read x.z x.m x.k x.e=d:=⟨_,rfl⟩
 obtain ⟨v,hv⟩:∃v,c.aY x.z x.m x.k x.e=v:=⟨_,rfl⟩
 have E:Hid (c.two x=d.two' x (d.low x.z x.r) v):=hide (by unfold Pl.Mc.two;rw [hf,hd,hv];rfl)
 have HRD:=fun w9 h9=>jJ w9 lo mid hi p g2 c x.z x.m x.k x.e h9 HG.o HI.o.z HI.o.k0 HI.o.k1 HI.o.e0 HI.o.e1 HI.o.m0 HI.o.m1
 rw [hd] at hf HG1 HQ HQ0
 rw [hv] at HV
 simp only [hd,hv] at HRD
 clear hd hv
 obtain ⟨q,hq⟩:∃q,d.low x.z x.r=q:=⟨_,rfl⟩
 rw [hq] at E HQ HQ0
 clear hq
 have HF:=hide (Pl.bG HG1.o)
 have HVQ:=hide HQ0
 have E2:Hid (d.two' x q v=(d.aB (Pl.gz x.z 0 q v)).put x.z x.r (Pl.kQ x.z 0 q v)):=hide (by unfold Pl.Mc.two';rw [HOP.o];rfl)
 have HVV:Hid (Pl.okv x.z (Pl.kQ x.z 0 q v)=true):=hide (Pl.mP HI.o.z)
 have HGF:=hide (HG1.o.aB (v:=Pl.gz x.z 0 q v) (Pl.lw x.z 0 q v).1 (Pl.lw x.z 0 q v).2).g
 go_enter func116,ntmps116
 go_wp2_with (first|(go_at_call 103;refine (HRD _ HM.o).mono ?_;rintro e9 W_1 ⟨rfl,aT,hm9,hb9⟩;obtain ⟨bg,bY,bI⟩:=hb9.nx HX HHB HGB HS;clear hb9;have aW:=hide hm9;obtain ⟨bQ,bU,bT,bV,eu,eP,eG,aX,bu⟩:=hm9.op;obtain ⟨lS,kW,oC,kC,oz,ou,oh,og⟩:=aX.o.c8;clear b0 b1 b2 b3 b4 b5 b6;obtain ⟨b0,b1,b2,b3,b4,b5,b6⟩:=aF bg.o;rw [HOP.o] at b0)|(go_at_call 68;refine st (bK _ lo mid hi p aT _ aW.o) ?_;rw [hf]))
 have HD:=hide (bu.o.any (ae (Kept.refl 0 0 W_1))).d
 have S1D:=cellsS (aX.o.any (ae (Kept.refl 0 0 W_1))) (bg.o.af (ae (Kept.refl 0 0 W_1)))
 go_region_held3 (fun w'=>w'.cell? ⟨p,0,none⟩=some (.slice (some ⟨bQ,0,none⟩) 4 bU)∧w'.cell? ⟨p,1,none⟩=some (.slice (some ⟨bT,0,none⟩) 4 bV)∧w'.cell? ⟨p,2,none⟩=some (iv d.r.o)∧w'.cell? ⟨p,3,none⟩=some (iv d.r.p)∧w'.cell? ⟨p,4,none⟩=some (iv d.r.f)∧w'.cell? ⟨p,5,none⟩=some (iv d.r.m)∧w'.cell? ⟨p,6,none⟩=some (.bool d.r.s)∧w'.cell? ⟨p,7,none⟩=some (.bool d.r.t)∧w'.cell? ⟨w.heap.size,1,none⟩=some (iv x.z)∧w'.cell? ⟨w.heap.size,2,none⟩=some (iv x.r)) (first|with_reducible exact S1D|with_reducible exact cellsS aN.o dM.o|go_keep) (first|(go_at_call 105;refine (wF _ bQ bU bT bV d.r x.z x.r HD.o HG1.o.g HI.o.z HI.o.r0 HI.o.r1).mono ?_;rw [HQ.o];rintro e9 W_2 ⟨rfl,hk9⟩;have K2:=hide ((ae (Kept.refl 0 0 W_1)).trans hk9);clear hk9;have gZ:=hide (aW.o.any K2.o);have aN:=hide (aX.o.any K2.o);have iq:=hide (bu.o.any K2.o);have dM:=hide (bg.o.af K2.o);have gX:=hide (bI.o.any K2.o);obtain ⟨xy,xx,xw,uM,rZ,xu,xq,xn,rY,rX,mJ,mG,mF,mD,mi,mg⟩:=aN.o.cells;clear rY rX mJ mG mF mD mi mg;have yu:=aN.o.frozen 0;have yt:=aN.o.frozen 1;have yl:=aN.o.frozen 2;have vO:=aN.o.frozen 3;have sZ:=aN.o.frozen 4;have yj:=aN.o.frozen 5;have yh:=aN.o.frozen 6;have yg:=aN.o.frozen 7;clear b0 b1 b2 b3 b4 b5 b6;obtain ⟨b0,b1,b2,b3,b4,b5,b6⟩:=aF dM.o;rw [HOP.o] at b0;clear lS kW oC kC oz ou oh og))
 go_wp2_with ((go_at_call 145;refine st (xP _ _ _ _ _ (Pl.uK HVQ.o HV.o)) ?_))
 have HBY:=hide ((aN.o.cF (Pl.gz x.z 0 q v)).any (ae (Kept.refl 0 0 (W_2.setCell ⟨p,4,none⟩ (iv (Pl.gz x.z 0 q v))))))
 have HOY:=hide ((iq.o.own (ak _ p 4 (iv (Pl.gz x.z 0 q v)))).any (ae (Kept.refl 0 0 (W_2.setCell ⟨p,4,none⟩ (iv (Pl.gz x.z 0 q v))))))
 have HSY:=hide ((gX.o.set p 4 (iv (Pl.gz x.z 0 q v)) HPH.o).drew)
 have HXY:=hide ((dM.o.other p 4 (iv (Pl.gz x.z 0 q v)) (by have:=HPB.o;omega)).af (ae (Kept.refl 0 0 (W_2.setCell ⟨p,4,none⟩ (iv (Pl.gz x.z 0 q v))))))
 have HRY:=hide (MO.reg (r:=(d.aB (Pl.gz x.z 0 q v)).r) HOY.o)
 have HMY:Hid (mid≤(W_2.setCell ⟨p,4,none⟩ (iv (Pl.gz x.z 0 q v))).drew.heap.size):=hide (Nat.le_trans HMH.o HOY.o.hh)
 have HPM:=HOY.o.p0
 have HNM:Hid (¬(lo≤w.heap.size∧w.heap.size<mid)):=hide (by have:=HHB.o;have:=HMH.o;omega)
 have HNP:Hid (¬(p≤w.heap.size∧w.heap.size<p+1)):=hide (by have:=HPB.o;omega)
 have SYD:=cellsS HBY.o HXY.o
 go_region_held3 (fun w'=>w'.cell? ⟨p,0,none⟩=some (.slice (some ⟨bQ,0,none⟩) 4 bU)∧w'.cell? ⟨p,1,none⟩=some (.slice (some ⟨bT,0,none⟩) 4 bV)∧w'.cell? ⟨p,2,none⟩=some (iv (d.aB (Pl.gz x.z 0 q v)).r.o)∧w'.cell? ⟨p,3,none⟩=some (iv (d.aB (Pl.gz x.z 0 q v)).r.p)∧w'.cell? ⟨p,4,none⟩=some (iv (d.aB (Pl.gz x.z 0 q v)).r.f)∧w'.cell? ⟨p,5,none⟩=some (iv (d.aB (Pl.gz x.z 0 q v)).r.m)∧w'.cell? ⟨p,6,none⟩=some (.bool (d.aB (Pl.gz x.z 0 q v)).r.s)∧w'.cell? ⟨p,7,none⟩=some (.bool (d.aB (Pl.gz x.z 0 q v)).r.t)∧w'.cell? ⟨w.heap.size,1,none⟩=some (iv x.z)∧w'.cell? ⟨w.heap.size,2,none⟩=some (iv x.r)) (first|with_reducible exact SYD|with_reducible exact cellsS aG.o jd.o|exact cellsS (aG.o.laid (Pl.jr (d.aB (Pl.gz x.z 0 q v)).r x.z x.r (Pl.kQ x.z 0 q v))) (Blk.kept jd.o (MB.jb _ _ _ _ _ _ _ _) HNP.o)|go_keep) (first|(go_at_call 110;refine (qG _ lo mid bQ bU bT bV (d.aB (Pl.gz x.z 0 q v)).r x.z x.r (Pl.kQ x.z 0 q v) HRY.o HMY.o HGF.o HI.o.r0 HI.o.r1 HVV.o).mono ?_;unfold iK;rintro e9 W_9 ⟨rfl,hr9,hk9⟩;have jU:=hide (HOY.o.regs hr9 hk9);have aG:=hide (HBY.o.regs hk9 HPM);have jd:=hide (Blk.kept HXY.o hk9 HNM.o);have jT:=hide (HSY.o.ai hk9 (Nat.le_refl _) HMH.o);clear hr9 hk9;obtain ⟨u0,u1,u2,u3,u4,u5,u6,u7,_⟩:=aG.o.cells;have f0:=aG.o.frozen 0;have f1:=aG.o.frozen 1;have f2:=aG.o.frozen 2;have f3:=aG.o.frozen 3;have f4:=aG.o.frozen 4;have f5:=aG.o.frozen 5;have f6:=aG.o.frozen 6;have f7:=aG.o.frozen 7))
 go_wp2_with fail
 first|go_end0|refine bodyPost_ret (results_none rfl _ _ _) rfl ?_
 exact ⟨rfl,aT,by rw [E.o,E2.o];exact MAt.laid aG.o jU.o,fG jT.o HPH.o _ _ _ _ _ _ _ _⟩
end Go.Proofs.YtkkmnnhaailkcaaGreatDoor
