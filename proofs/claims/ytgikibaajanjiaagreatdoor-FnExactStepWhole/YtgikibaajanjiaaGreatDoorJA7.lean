/- Part 7 of what the last text leans on. -/
import Derived.Test.YtgikibaajanjiaaGreatDoorJA4
import Derived.Deep.DeepCutAuto
import Derived.Test.YtgikibaajanjiaaGreatDoorJA5
import Derived.Test.YtgikibaajanjiaaGreatDoorJA6
set_option maxRecDepth 100000
set_option maxHeartbeats 16000000
namespace Go.Proofs.YtgikibaajanjiaaGreatDoor
open Pl
open Go.RowKit Go.Proofs.Tryz
set_option linter.unusedVariables false
set_option linter.unusedSimpArgs false
theorem Fh (w:World) (op r k e s:Int) (h2:within r 0 3=true) (h3:iH 7 k e=true) (h4:within s 0 7=true) :
  Calls prog 56 #[.agg (inA op 2 r 7 k e s)] w fun r' w'=>r'=.returned (.bool (bI ⟨op,2,r,7,k,e,s⟩))∧Kept 0 0 w w':=by
 have K0:=Zr (kept_alloc w (.cells (inA op 2 r 7 k e s) 48));have B0:=Zr (Blk.new w (inA op 2 r 7 k e s) 48);have G:Hid (bI ⟨op,2,r,7,k,e,s⟩=ax ⟨op,2,r,7,k,e,s⟩):=Zr (by simp only [bI,Pl.inBase,lh,h2,h3,h4];rfl);have hZ:gW 7 k e=false:=rfl;go_enter func56,ntmps56;go_upto_region 5 with (first|(go_at_call 75;have z9:=B2;refine st (dF _ _ _ _) ?_;rw [show (decide (0<=s)&&decide (s<=7))=within s 0 7 from rfl,h4])|(go_at_call 103;refine st (tZ _) ?_)|(go_at_call 75;refine st (dF _ _ _ _) ?_;rw [show (decide (0<=r)&&decide (r<=3))=within r 0 3 from rfl,h2])|(go_at_call 104;refine (dJ _ 7 k e).mono ?_;rintro e9 w2 ⟨rfl,k2⟩;rw [h3];have B2:=Zr (B0.o.ae k2);have K2:=Zr (K0.o.trans k2);have c0:=B2.o.all;clear k2));rcases xk op with rfl|rfl|rfl|rfl|rfl|rfl|rfl|rfl|rfl|rfl|rfl|rfl|rfl|rfl|rfl|rfl|rfl|rfl|rfl|hno
 ·have KND:Hid (ax ⟨1,2,r,7,k,e,s⟩=((s==0)&&(((2:Int)==2) || !((7:Int)==1)))):=Zr rfl;cases a1:(s==0)
  all_goals
   go_wp2_with fail;go_ret;exact ⟨rB (by rw [G.o,KND.o]<;>first|rfl|(simp only [a1,hZ];done)|(simp only [a1,hZ];rfl)|simp [a1,hZ]),by first|exact K4.o|exact K3.o|exact K2.o⟩
 ·have KND:Hid (ax ⟨2,2,r,7,k,e,s⟩=((s==0)&&(((7:Int)==0)||jU (7:Int)))):=Zr rfl;cases a1:(s==0)
  all_goals
   go_wp2_with (first|(go_at_call 105;refine st (kT _ _) ?_));go_ret;exact ⟨rB (by rw [G.o,KND.o]<;>first|rfl|(simp only [a1,hZ];done)|(simp only [a1,hZ];rfl)|simp [a1,hZ]),by first|exact K4.o|exact K3.o|exact K2.o⟩
 ·have KND:Hid (ax ⟨3,2,r,7,k,e,s⟩=((s==0)&&(((2:Int)==2) || !((7:Int)==1)))):=Zr rfl;cases a1:(s==0)
  all_goals
   go_wp2_with fail;go_ret;exact ⟨rB (by rw [G.o,KND.o]<;>first|rfl|(simp only [a1,hZ];done)|(simp only [a1,hZ];rfl)|simp [a1,hZ]),by first|exact K4.o|exact K3.o|exact K2.o⟩
 ·have KND:Hid (ax ⟨4,2,r,7,k,e,s⟩=((s==0)&&(((2:Int)==2) || !((7:Int)==1)))):=Zr rfl;cases a1:(s==0)
  all_goals
   go_wp2_with fail;go_ret;exact ⟨rB (by rw [G.o,KND.o]<;>first|rfl|(simp only [a1,hZ];done)|(simp only [a1,hZ];rfl)|simp [a1,hZ]),by first|exact K4.o|exact K3.o|exact K2.o⟩
 ·have KND:Hid (ax ⟨5,2,r,7,k,e,s⟩=((s==0)&&(((2:Int)==2) || !((7:Int)==1)))):=Zr rfl;cases a1:(s==0)
  all_goals
   go_wp2_with fail;go_ret;exact ⟨rB (by rw [G.o,KND.o]<;>first|rfl|(simp only [a1,hZ];done)|(simp only [a1,hZ];rfl)|simp [a1,hZ]),by first|exact K4.o|exact K3.o|exact K2.o⟩
 ·have KND:Hid (ax ⟨6,2,r,7,k,e,s⟩=((s==0)&&(((2:Int)==2) || !((7:Int)==1)))):=Zr rfl;cases a1:(s==0)
  all_goals
   go_wp2_with fail;go_ret;exact ⟨rB (by rw [G.o,KND.o]<;>first|rfl|(simp only [a1,hZ];done)|(simp only [a1,hZ];rfl)|simp [a1,hZ]),by first|exact K4.o|exact K3.o|exact K2.o⟩
 ·have KND:Hid (ax ⟨7,2,r,7,k,e,s⟩=((s==0)&&(((2:Int)==2) || !((7:Int)==1)))):=Zr rfl;cases a1:(s==0)
  all_goals
   go_wp2_with fail;go_ret;exact ⟨rB (by rw [G.o,KND.o]<;>first|rfl|(simp only [a1,hZ];done)|(simp only [a1,hZ];rfl)|simp [a1,hZ]),by first|exact K4.o|exact K3.o|exact K2.o⟩
 ·have KND:Hid (ax ⟨8,2,r,7,k,e,s⟩=((s==0)&&(((2:Int)==2) || !((7:Int)==1)))):=Zr rfl;cases a1:(s==0)
  all_goals
   go_wp2_with fail;go_ret;exact ⟨rB (by rw [G.o,KND.o]<;>first|rfl|(simp only [a1,hZ];done)|(simp only [a1,hZ];rfl)|simp [a1,hZ]),by first|exact K4.o|exact K3.o|exact K2.o⟩
 ·have KND:Hid (ax ⟨9,2,r,7,k,e,s⟩=(((2:Int)==2)&&(s==0))):=Zr rfl;go_wp2_with fail;go_ret;exact ⟨rB (by rw [G.o,KND.o]<;>first|rfl|(simp only [hZ];done)|(simp only [hZ];rfl)|simp [hZ]),by first|exact K4.o|exact K3.o|exact K2.o⟩
 ·have KND:Hid (ax ⟨10,2,r,7,k,e,s⟩=((((2:Int)==2)&&(s==0))&&eX (7:Int))):=Zr rfl;cases a1:(s==0)
  all_goals
   go_wp2_with (first|(go_at_call 106;refine st (iT _ _) ?_));go_ret;exact ⟨rB (by rw [G.o,KND.o]<;>first|rfl|(simp only [a1,hZ];done)|(simp only [a1,hZ];rfl)|simp [a1,hZ]),by first|exact K4.o|exact K3.o|exact K2.o⟩
 ·have KND:Hid (ax ⟨11,2,r,7,k,e,s⟩=(((r==0)&&decide (s<=3))&&(((7:Int)==0)||jU (7:Int)))):=Zr rfl;cases a1:(r==0)<;>cases a2:decide (s<=3)
  all_goals
   go_wp2_with (first|(go_at_call 105;refine st (kT _ _) ?_));go_ret;exact ⟨rB (by rw [G.o,KND.o]<;>first|rfl|(simp only [a1,a2,hZ];done)|(simp only [a1,a2,hZ];rfl)|simp [a1,a2,hZ]),by first|exact K4.o|exact K3.o|exact K2.o⟩
 ·have KND:Hid (ax ⟨12,2,r,7,k,e,s⟩=(((7:Int)==0))):=Zr rfl;go_wp2_with fail;go_ret;exact ⟨rB (by rw [G.o,KND.o]<;>first|rfl|(simp only [hZ];done)|(simp only [hZ];rfl)|simp [hZ]),by first|exact K4.o|exact K3.o|exact K2.o⟩
 ·have KND:Hid (ax ⟨13,2,r,7,k,e,s⟩=((((2:Int)==2)&&decide (r<=1))&&((7:Int)==7))):=Zr rfl;cases a1:decide (r<=1)
  all_goals
   go_wp2_with fail;go_ret;exact ⟨rB (by rw [G.o,KND.o]<;>first|rfl|(simp only [a1,hZ];done)|(simp only [a1,hZ];rfl)|simp [a1,hZ]),by first|exact K4.o|exact K3.o|exact K2.o⟩
 ·have KND:Hid (ax ⟨14,2,r,7,k,e,s⟩=(((((2:Int)==2)&&(r==0))&&decide (s<=1))&&eX (7:Int))):=Zr rfl;cases a1:(r==0)<;>cases a2:decide (s<=1)
  all_goals
   go_wp2_with (first|(go_at_call 106;refine st (iT _ _) ?_));go_ret;exact ⟨rB (by rw [G.o,KND.o]<;>first|rfl|(simp only [a1,a2,hZ];done)|(simp only [a1,a2,hZ];rfl)|simp [a1,a2,hZ]),by first|exact K4.o|exact K3.o|exact K2.o⟩
 ·have KND:Hid (ax ⟨15,2,r,7,k,e,s⟩=(bif s==3 then (((2:Int)==2)&&(r==0))&&jd (7:Int) e else ((((2:Int)==2)&&decide (s<=6))&&gW (7:Int) k e)&&(decide (3<s)||(r==0)))):=Zr rfl;cases a0:(s==3)<;>cases a1:(r==0)<;>cases a2:decide (s<=6)<;>cases a4:decide (3<s)
  all_goals
   go_wp2_with (first|(go_at_call 107;refine (kS 7 k e _).mono ?_;rintro e9 w3 ⟨rfl,k3⟩;have B3:=Zr (B2.o.ae k3);have K3:=Zr (K2.o.trans k3);have d0:=B3.o.all;clear k3)|(go_at_call 108;have z9:=B3;refine (dL 7 k e _).mono ?_;rintro e9 w4 ⟨rfl,k4⟩;rw [hZ];have B4:=Zr (B3.o.ae k4);have K4:=Zr (K3.o.trans k4);have f0:=B4.o.all;clear k4)|(go_at_call 108;refine (dL 7 k e _).mono ?_;rintro e9 w4 ⟨rfl,k4⟩;rw [hZ];have B4:=Zr (B2.o.ae k4);have K4:=Zr (K2.o.trans k4);have f0:=B4.o.all;clear k4));go_ret;exact ⟨rB (by rw [G.o,KND.o]<;>first|rfl|(simp only [a0,a1,a2,a4,hZ];done)|(simp only [a0,a1,a2,a4,hZ];rfl)|simp [a0,a1,a2,a4,hZ]),by first|exact K4.o|exact K3.o|exact K2.o⟩
 ·have KND:Hid (ax ⟨16,2,r,7,k,e,s⟩=((((2:Int)==2)&&(s==0)) && !((7:Int)==1))):=Zr rfl;cases a1:(s==0)
  all_goals
   go_wp2_with fail;go_ret;exact ⟨rB (by rw [G.o,KND.o]<;>first|rfl|(simp only [a1,hZ];done)|(simp only [a1,hZ];rfl)|simp [a1,hZ]),by first|exact K4.o|exact K3.o|exact K2.o⟩
 ·have KND:Hid (ax ⟨17,2,r,7,k,e,s⟩=((((2:Int)==2)&&(s==0)) && !((7:Int)==1))):=Zr rfl;cases a1:(s==0)
  all_goals
   go_wp2_with fail;go_ret;exact ⟨rB (by rw [G.o,KND.o]<;>first|rfl|(simp only [a1,hZ];done)|(simp only [a1,hZ];rfl)|simp [a1,hZ]),by first|exact K4.o|exact K3.o|exact K2.o⟩
 ·have KND:Hid (ax ⟨18,2,r,7,k,e,s⟩=(((!((2:Int)==2))&&decide (s<=1))&&((7:Int)==0))):=Zr rfl;go_wp2_with fail;go_ret;exact ⟨rB (by rw [G.o,KND.o]<;>first|rfl|(simp only [hZ];done)|(simp only [hZ];rfl)|simp [hZ]),by first|exact K4.o|exact K3.o|exact K2.o⟩
 ·have KND:Hid (ax ⟨19,2,r,7,k,e,s⟩=(((2:Int)==2)&&((((s==0)&&(r==0))&&jd (7:Int) e)||((s==1)&&gW (7:Int) k e)))):=Zr rfl;cases a1:(s==0)<;>cases a2:(r==0)<;>cases a3:jd 7 e<;>cases a4:(s==1)
  all_goals
   go_wp2_with (first|(go_at_call 107;refine (kS 7 k e _).mono ?_;rintro e9 w3 ⟨rfl,k3⟩;rw [a3];have B3:=Zr (B2.o.ae k3);have K3:=Zr (K2.o.trans k3);have d0:=B3.o.all;clear k3)|(go_at_call 108;have z9:=B3;refine (dL 7 k e _).mono ?_;rintro e9 w4 ⟨rfl,k4⟩;rw [hZ];have B4:=Zr (B3.o.ae k4);have K4:=Zr (K3.o.trans k4);have f0:=B4.o.all;clear k4)|(go_at_call 108;refine (dL 7 k e _).mono ?_;rintro e9 w4 ⟨rfl,k4⟩;rw [hZ];have B4:=Zr (B2.o.ae k4);have K4:=Zr (K2.o.trans k4);have f0:=B4.o.all;clear k4));go_ret;exact ⟨rB (by rw [G.o,KND.o]<;>first|rfl|(simp only [a1,a2,a3,a4,hZ];done)|(simp only [a1,a2,a3,a4,hZ];rfl)|simp [a1,a2,a3,a4,hZ]),by first|exact K4.o|exact K3.o|exact K2.o⟩
 ·obtain ⟨q1,q2,q3,q4,q5,q6,q7,q8,q9,q10,q11,q12,q13,q14,q15,q16,q17,q18,q19⟩:=hno;have KND:Hid (ax ⟨op,2,r,7,k,e,s⟩=false):=Zr (by simp [ax,q1,q2,q3,q4,q5,q6,q7,q8,q9,q10,q11,q12,q13,q14,q15,q16,q17,q18,q19]);go_wp2_with fail;go_ret;exact ⟨rB (by rw [G.o,KND.o]),K2.o⟩
set_option linter.unusedSimpArgs false
theorem kU (w:World) (op z r m k e s:Int) :
  Calls prog 56 #[.agg (inA op z r m k e s)] w fun r' w'=>r'=.returned (.bool (bI ⟨op,z,r,m,k,e,s⟩))∧Kept 0 0 w w':=by
 have K0:=Zr (kept_alloc w (.cells (inA op z r m k e s) 48));have B0:=Zr (Blk.new w (inA op z r m k e s) 48);cases h1:(decide (z=1)||decide (z=2))
 ·have G:Hid (bI ⟨op,z,r,m,k,e,s⟩=false):=Zr (by simp only [bI,Pl.inBase,h1];rfl);go_enter func56,ntmps56;go_wp2_with (first|(go_at_call 103;refine st (nS _ _) ?_;rw [h1]));go_ret;exact ⟨rB G.o.symm,K0.o⟩
 ·cases h2:within r 0 3
  ·have G:Hid (bI ⟨op,z,r,m,k,e,s⟩=false):=Zr (by simp only [bI,Pl.inBase,h1,h2];rfl);go_enter func56,ntmps56;go_wp2_with (first|(go_at_call 103;refine st (nS _ _) ?_;rw [h1])|(go_at_call 75;refine st (dF _ _ _ _) ?_;rw [show (decide (0<=r)&&decide (r<=3))=within r 0 3 from rfl,h2]));go_ret;exact ⟨rB G.o.symm,K0.o⟩
  ·cases h3:iH m k e
   ·have G:Hid (bI ⟨op,z,r,m,k,e,s⟩=false):=Zr (by simp only [bI,Pl.inBase,h1,h2,h3];rfl);go_enter func56,ntmps56;go_wp2_with (first|(go_at_call 103;refine st (nS _ _) ?_;rw [h1])|(go_at_call 75;refine st (dF _ _ _ _) ?_;rw [show (decide (0<=r)&&decide (r<=3))=within r 0 3 from rfl,h2])|(go_at_call 104;refine (dJ _ m k e).mono ?_;rintro e9 w2 ⟨rfl,k2⟩;rw [h3];have B2:=Zr (B0.o.ae k2);have K2:=Zr (K0.o.trans k2);have c0:=B2.o.all;clear k2));go_ret;exact ⟨rB G.o.symm,K2.o⟩
   ·cases h4:within s 0 7
    ·have G:Hid (bI ⟨op,z,r,m,k,e,s⟩=false):=Zr (by simp only [bI,Pl.inBase,h1,h2,h3,h4];rfl);go_enter func56,ntmps56;go_wp2_with (first|(go_at_call 75;have z9:=B2;refine st (dF _ _ _ _) ?_;rw [show (decide (0<=s)&&decide (s<=7))=within s 0 7 from rfl,h4])|(go_at_call 103;refine st (nS _ _) ?_;rw [h1])|(go_at_call 75;refine st (dF _ _ _ _) ?_;rw [show (decide (0<=r)&&decide (r<=3))=within r 0 3 from rfl,h2])|(go_at_call 104;refine (dJ _ m k e).mono ?_;rintro e9 w2 ⟨rfl,k2⟩;rw [h3];have B2:=Zr (B0.o.ae k2);have K2:=Zr (K0.o.trans k2);have c0:=B2.o.all;clear k2));go_ret;exact ⟨rB G.o.symm,K2.o⟩
    ·cases h6:(m==7)
     ·clear K0 B0;simp at h1;rcases h1 with rfl|rfl
      ·exact Fq w op r m k e s h2 h3 h4 h6
      ·exact Fp w op r m k e s h2 h3 h4 h6
     ·have hm:m=7:=by simpa using h6
      subst hm;have h1b:=h1;simp at h1b;rcases h1b with rfl|rfl
      ·cases h8:decide (255<e)
       ·exact Fj w op r k e s h2 h3 h4 h8
       ·have G:Hid (bI ⟨op,1,r,7,k,e,s⟩=false):=Zr (by simp only [bI,Pl.inBase,lh,h2,h3,h4,h8];rfl);go_enter func56,ntmps56;go_wp2_with (first|(go_at_call 75;have z9:=B2;refine st (dF _ _ _ _) ?_;rw [show (decide (0<=s)&&decide (s<=7))=within s 0 7 from rfl,h4])|(go_at_call 103;refine st (nS _ _) ?_;rw [h1])|(go_at_call 75;refine st (dF _ _ _ _) ?_;rw [show (decide (0<=r)&&decide (r<=3))=within r 0 3 from rfl,h2])|(go_at_call 104;refine (dJ _ 7 k e).mono ?_;rintro e9 w2 ⟨rfl,k2⟩;rw [h3];have B2:=Zr (B0.o.ae k2);have K2:=Zr (K0.o.trans k2);have c0:=B2.o.all;clear k2));go_ret;exact ⟨rB G.o.symm,K2.o⟩
      ·exact Fh w op r k e s h2 h3 h4
set_option linter.unusedSimpArgs false
theorem kG (n:Int) (w:World) (h0:0<=n) (h1:n<=65535):Calls prog 185 #[iv n] w fun e' w'=>e'=.returned (iv (dO n))∧w'=w:=by
 have hA:=Pl.and7 (n/32);cases hE:jH (n/32%8)
 all_goals
  go_enter func185,ntmps185;go_wp2_with (first|(go_at_call 131;refine st (nU _ _) ?_;rw [hE]));go_ret;exact ⟨rI (by simp [dO,hE]),rfl⟩
theorem uu (w:World) (op z r m k e s:Int):Calls prog 110 #[.agg (inA op z r m k e s)] w fun e' w'=>e'=.returned (.bool (jc ⟨op,z,r,m,k,e,s⟩))∧Kept 0 0 w w':=by
 have K0:=Zr (kept_alloc w (.cells (inA op z r m k e s) 48));cases q1:(op==15)<;>cases q2:(s==1)<;>cases q3:(s==3)<;>cases q4:(op==19)<;>cases q5:(s==0)
 all_goals
  go_enter func110,ntmps110;go_wp2_with fail;go_ret;exact ⟨rB (by simp only [jc,q1,q2,q3,q4,q5];rfl),K0.o⟩
theorem mD (w:World) (n v:Int) (h0:0<=n) (h1:n<=65535):Calls prog 186 #[iv n,iv v] w fun e' w'=>e'=.returned (.agg #[iv (Pl.decode n v).op,iv (Pl.decode n v).z,iv (Pl.decode n v).r,iv (Pl.decode n v).m,iv (Pl.decode n v).k,iv (Pl.decode n v).e,iv (Pl.decode n v).s])∧Kept 0 0 w w':=by
 have A1:=and1 (n/1024);have A2:=WP (n/256);have A3:=Pl.and7 (n/32);have A4:=WP (n/8);have A5:=Pl.and7 n;by_cases hL:dO n=2
 ·have E:Hid (Pl.decode n v=⟨n/2048,n/1024%2+1,n/256%4,n/32%8,n/8%4,v,n%8⟩):=Zr (by simp [Pl.decode,hL]);go_enter func186,ntmps186;go_wp2_with (first|(go_at_call 185;refine st (kG _ _ h0 h1) ?_;rw [hL]));refine bodyPost_ret (v:=.agg (inA (n/2048) (n/1024%2+1) (n/256%4) (n/32%8) (n/8%4) v (n%8))) ?_ rfl ⟨by rw [E.o],?_⟩
  ·rw [aj rfl];go_simp
  ·repeat' (first|exact Kept.refl _ _ _|refine ag ?_ _|refine af ?_ _ _ _ (.inr (by omega)))
 ·have E:Hid (Pl.decode n v=⟨n/2048,n/1024%2+1,n/256%4,n/32%8,n/8%4,0,n%8⟩):=Zr (by simp [Pl.decode,hL]);have hL2:dO n=1:=by unfold dO at hL ⊢;split at hL<;>simp_all
  go_enter func186,ntmps186;go_wp2_with (first|(go_at_call 185;refine st (kG _ _ h0 h1) ?_;rw [hL2]));refine bodyPost_ret (v:=.agg (inA (n/2048) (n/1024%2+1) (n/256%4) (n/32%8) (n/8%4) 0 (n%8))) ?_ rfl ⟨by rw [E.o],?_⟩
  ·rw [aj rfl];go_simp
  ·repeat' (first|exact Kept.refl _ _ _|refine ag ?_ _|refine af ?_ _ _ _ (.inr (by omega)))
namespace Pl
structure InB (x:In):Prop where
 z:x.z=1∨x.z=2
 r0:0<=x.r
 r1:x.r<=3
 m0:0<=x.m
 m1:x.m<=7
 k0:0<=x.k
 k1:x.k<=3
 e0:0<=x.e
 e1:x.e<=65535
 s0:0<=x.s
 s1:x.s<=7
 n7:x.m=7->okv x.z x.e=true
theorem rO {x:In} (h:bI x=true):InB x:=by
 simp only [bI,inBase,iH,bH,aJ,within,lh,Bool.and_eq_true,Bool.or_eq_true,decide_eq_true_eq,Bool.not_eq_true',Bool.and_eq_false_iff,beq_iff_eq,decide_eq_false_iff_not,beq_eq_false_iff_ne] at h;obtain ⟨⟨hz,⟨r0,r1⟩,⟨⟨m0,m1⟩,⟨k0,k1⟩,_,⟨e0,e1⟩,_⟩,⟨s0,s1⟩,hb⟩,_⟩:=h;refine ⟨hz,r0,r1,m0,m1,k0,k1,e0,e1,s0,s1,fun h7 => ?_⟩;rcases hz with hz|hz
 ·rw [hz];simp [okv,top];omega
 ·rw [hz];simp [okv,top];omega
theorem GM.read {c:Mc} (h:GM c) {z m k e:Int} (hz:z=1∨z=2) (k0:0<=k) (k1:k<=3) (e0:0<=e) (e1:e<=65535):GM (c.read z m k e):=by
 unfold Mc.read;cases Mc.gu m
 ·have q:=iW h.g (z:=z) (m:=m) k0 k1 e0 e1;exact (h.plc k0 k1).acc (yj hz q.1 q.2)
 ·exact h
theorem GM.place {c:Mc} (h:GM c) {z m k e:Int} (k0:0<=k) (k1:k<=3):GM (c.place z m k e):=by
 unfold Mc.place;cases m==0
 ·exact h.plc k0 k1
 ·exact h
theorem mF {c:Mc} (h:GM c) {z m k e:Int} (k0:0<=k) (k1:k<=3) (e0:0<=e) (e1:e<=65535):0<=c.iE z m k e∧c.iE z m k e<=65535:=by
 unfold Mc.iE;cases m==0
 ·exact iW h.g k0 k1 e0 e1
 ·exact ⟨Int.le_refl 0,(by decide:(0:Int)<=65535)⟩
theorem fB {c:Mc} (h:GM c) {z m k e:Int} (hz:z=1∨z=2) (k0:0<=k) (k1:k<=3) (e0:0<=e) (e1:e<=65535) (h1:m=1->z=2) (h7:m=7->okv z e=true):okv z (c.bu z m k e)=true:=by
 unfold Mc.bu;cases q0:(m==0)
 ·cases q1:(m==1)
  ·cases q7:(m==7)
   ·have q:=iW h.g (z:=z) (m:=m) k0 k1 e0 e1;exact (h.plc k0 k1).fZ (yj hz q.1 q.2)
   ·exact h7 (by simpa using q7)
  ·have e:=h1 (by simpa using q1);subst e;have q:=h.g.aw k.toNat (by omega);show okv 2 (el c.r.ys k.toNat)=true;simp [okv,top];omega
 ·exact iw h hz k0 k1
theorem yN (r:Rg) (z m k e:Int):(bi r z m k e).f=r.f:=by
 unfold bi;split
 ·rfl
 ·split<;>rfl
theorem Ib (c:Mc) (z m k e:Int):(c.read z m k e).r.f=c.r.f:=by
 unfold Mc.read;cases Mc.gu m
 ·exact yN c.r z m k e
 ·rfl
theorem xg (c:Mc) (z m k e:Int):(c.place z m k e).r.f=c.r.f:=by
 unfold Mc.place;cases m==0
 ·exact yN c.r z m k e
 ·rfl
theorem CE (c:Mc) (z m k e:Int):(c.place z m k e).r.p=c.r.p:=by
 unfold Mc.place;cases m==0
 ·exact qE c.r z m k e
 ·rfl
theorem uo {z a b:Int} (ha:okv z a=true) (hb:okv z b=true):two z 0 a b=true:=by unfold two;rw [ha,hb];rfl
theorem uJ {z a b:Int} (ha:okv z a=true):okv z (rY z 0 a b)=true:=by
 have:=aO ha
 unfold rY;split
 ·rcases this.1 with ⟨rfl,e⟩|⟨rfl,e⟩<;>rw [e]<;>simp [okv,top]<;>omega
 ·rcases this.1 with ⟨rfl,e⟩|⟨rfl,e⟩<;>simp [okv,top]
theorem lL {z a b:Int} (hz:z=1∨z=2):okv z (lC z 0 a b)=true:=by
 unfold lC;split
 ·rcases hz with rfl|rfl<;>simp [okv,top]<;>omega
 ·rcases hz with rfl|rfl<;>simp [okv,top]
theorem kD (n:Nat) (h:n<65536):(BitVec.ofInt 64 (n:Int)).toNat=n:=by rw [BitVec.toNat_ofInt];omega
theorem bits_nat (a b:Nat) (ha:a<65536) (hb:b<65536):bits .and .i64 (a:Int) (b:Int)=((a &&& b:Nat):Int)∧bits .or .i64 (a:Int) (b:Int)=((a ||| b:Nat):Int)∧bits .xor .i64 (a:Int) (b:Int)=((a ^^^ b:Nat):Int):=by
 have h1:a &&& b<2^16:=Nat.and_lt_two_pow a hb;have h2:a ||| b<2^16:=Nat.or_lt_two_pow ha hb
 have h3:a ^^^ b<2^16:=Nat.xor_lt_two_pow ha hb;refine ⟨?_,?_,?_⟩
 ·show IntKind.i64.wrap ((BitVec.ofInt 64 a &&& BitVec.ofInt 64 b).toNat:Int)=_
  rw [BitVec.toNat_and,kD a ha,kD b hb,IntKind.wrap_i64];omega
 ·show IntKind.i64.wrap ((BitVec.ofInt 64 a ||| BitVec.ofInt 64 b).toNat:Int)=_
  rw [BitVec.toNat_or,kD a ha,kD b hb,IntKind.wrap_i64];omega
 ·show IntKind.i64.wrap ((BitVec.ofInt 64 a ^^^ BitVec.ofInt 64 b).toNat:Int)=_
  rw [BitVec.toNat_xor,kD a ha,kD b hb,IntKind.wrap_i64];omega
theorem qI {z a b:Int} (ha:okv z a=true) (hb:okv z b=true):okv z (bits .and .i64 a b)=true∧okv z (bits .or .i64 a b)=true∧okv z (bits .xor .i64 a b)=true:=by
 have t1:=aO ha;have t2:=aO hb;obtain ⟨x,rfl⟩:∃x:Nat,a=(x:Int):=⟨a.toNat,by omega⟩
 obtain ⟨y,rfl⟩:∃y:Nat,b=(y:Int):=⟨b.toNat,by omega⟩
 obtain ⟨e1,e2,e3⟩:=bits_nat x y (by omega) (by omega);rw [e1,e2,e3];rcases t1.1 with ⟨rfl,e⟩|⟨rfl,e⟩<;>rw [e] at t1 t2
 ·have h1:x &&& y<2^8:=Nat.and_lt_two_pow x (by omega);have h2:x ||| y<2^8:=Nat.or_lt_two_pow (by omega) (by omega)
  have h3:x ^^^ y<2^8:=Nat.xor_lt_two_pow (by omega) (by omega);simp [okv,top];omega
 ·have h1:x &&& y<2^16:=Nat.and_lt_two_pow x (by omega);have h2:x ||| y<2^16:=Nat.or_lt_two_pow (by omega) (by omega)
  have h3:x ^^^ y<2^16:=Nat.xor_lt_two_pow (by omega) (by omega);simp [okv,top];omega
end Pl
theorem Tc {z a b:Int} (w:World) (ha:okv z a=true) (hb:okv z b=true):Calls prog 219 #[iv z,iv 0,iv a,iv b] w fun e w'=>e=.returned (.tuple #[iv (rY z 0 a b),iv (qW z 0 a b)])∧w'=w:=by
 have h2:=uo ha hb;have t1:=aO ha;have t2:=aO hb;unfold rY qW;rw [if_pos h2,if_pos h2];rcases t1.1 with ⟨rfl,e⟩|⟨rfl,e⟩
 ·rw [e] at t1 t2 ⊢;exact Tf 0 a b w (by omega) (by omega) (by omega) (by omega) (by omega) (by omega)
 ·rw [e] at t1 t2 ⊢;exact Td 0 a b w (by omega) (by omega) (by omega) (by omega) (by omega) (by omega)
theorem SX {z f a b:Int} (w:World) (ha:okv z a=true) (hb:okv z b=true) (hf:Pl.flags f=true):Calls prog 220 #[iv z,iv f,iv a,iv b] w fun e w'=>e=.returned (iv (nz z f a b))∧w'=w:=by
 have h2:=uo ha hb;have e:nz z f a b=bits .or .i64 (bits .and .i64 (jW z 0 a b) 15) (bits .and .i64 f 16):=by unfold nz;rw [h2,hf];rfl
 rw [e];exact V3 z f a b w h2
end Go.Proofs.YtgikibaajanjiaaGreatDoor
