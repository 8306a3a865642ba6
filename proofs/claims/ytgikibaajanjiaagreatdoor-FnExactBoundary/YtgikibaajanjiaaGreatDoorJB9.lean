/- Part 9 of what the last text leans on. -/
import Derived.Test.YtgikibaajanjiaaGreatDoorJB7
import Derived.Deep.DeepCutAuto
set_option maxRecDepth 100000
set_option maxHeartbeats 16000000
namespace Go.Proofs.YtgikibaajanjiaaGreatDoor
open Pl
open Go.RowKit Go.Proofs.Tryz
set_option linter.unusedVariables false
set_option linter.unusedSimpArgs false
theorem Gh (w:World) (op r k e s:Int) (h2:within r 0 3=true) (h3:iO 7 k e=true) (h4:within s 0 7=true) (h8:decide (255<e)=false) :
  Calls prog 56 #[.agg (inA op 1 r 7 k e s)] w fun r' w'=>r'=.returned (.bool (bP ⟨op,1,r,7,k,e,s⟩))∧Kept 0 0 w w':=by
 have K0:=aaA (kept_alloc w (.cells (inA op 1 r 7 k e s) 48));have B0:=aaA (Blk.new w (inA op 1 r 7 k e s) 48);have G:Hid (bP ⟨op,1,r,7,k,e,s⟩=az ⟨op,1,r,7,k,e,s⟩):=aaA (by simp only [bP,Pl.inBase,lM,h2,h3,h4];simp at h8;simp;omega);have hZ:iq 7 k e=false:=rfl;go_enter func56,ntmps56;go_upto_region 5 with (first|(go_at_call 75;have z9:=B2;refine st (dJ _ _ _ _) ?_;rw [show (decide (0<=s)&&decide (s<=7))=within s 0 7 from rfl,h4])|(go_at_call 103;refine st (uB _) ?_)|(go_at_call 75;refine st (dJ _ _ _ _) ?_;rw [show (decide (0<=r)&&decide (r<=3))=within r 0 3 from rfl,h2])|(go_at_call 104;refine (dP _ 7 k e).mono ?_;rintro e9 w2 ⟨rfl,k2⟩;rw [h3];have B2:=aaA (B0.o.ae k2);have K2:=aaA (K0.o.trans k2);have c0:=B2.o.all;clear k2));rcases xO op with rfl|rfl|rfl|rfl|rfl|rfl|rfl|rfl|rfl|rfl|rfl|rfl|rfl|rfl|rfl|rfl|rfl|rfl|rfl|hno
 ·have KND:Hid (az ⟨1,1,r,7,k,e,s⟩=((s==0)&&(((1:Int)==2) || !((7:Int)==1)))):=aaA rfl;cases a1:(s==0)
  all_goals
   go_wp2_with fail;go_ret;exact ⟨rB (by rw [G.o,KND.o]<;>first|rfl|(simp only [a1,hZ];done)|(simp only [a1,hZ];rfl)|simp [a1,hZ]),by first|exact K4.o|exact K3.o|exact K2.o⟩
 ·have KND:Hid (az ⟨2,1,r,7,k,e,s⟩=((s==0)&&(((7:Int)==0)||kD (7:Int)))):=aaA rfl;cases a1:(s==0)
  all_goals
   go_wp2_with (first|(go_at_call 105;refine st (lF _ _) ?_));go_ret;exact ⟨rB (by rw [G.o,KND.o]<;>first|rfl|(simp only [a1,hZ];done)|(simp only [a1,hZ];rfl)|simp [a1,hZ]),by first|exact K4.o|exact K3.o|exact K2.o⟩
 ·have KND:Hid (az ⟨3,1,r,7,k,e,s⟩=((s==0)&&(((1:Int)==2) || !((7:Int)==1)))):=aaA rfl;cases a1:(s==0)
  all_goals
   go_wp2_with fail;go_ret;exact ⟨rB (by rw [G.o,KND.o]<;>first|rfl|(simp only [a1,hZ];done)|(simp only [a1,hZ];rfl)|simp [a1,hZ]),by first|exact K4.o|exact K3.o|exact K2.o⟩
 ·have KND:Hid (az ⟨4,1,r,7,k,e,s⟩=((s==0)&&(((1:Int)==2) || !((7:Int)==1)))):=aaA rfl;cases a1:(s==0)
  all_goals
   go_wp2_with fail;go_ret;exact ⟨rB (by rw [G.o,KND.o]<;>first|rfl|(simp only [a1,hZ];done)|(simp only [a1,hZ];rfl)|simp [a1,hZ]),by first|exact K4.o|exact K3.o|exact K2.o⟩
 ·have KND:Hid (az ⟨5,1,r,7,k,e,s⟩=((s==0)&&(((1:Int)==2) || !((7:Int)==1)))):=aaA rfl;cases a1:(s==0)
  all_goals
   go_wp2_with fail;go_ret;exact ⟨rB (by rw [G.o,KND.o]<;>first|rfl|(simp only [a1,hZ];done)|(simp only [a1,hZ];rfl)|simp [a1,hZ]),by first|exact K4.o|exact K3.o|exact K2.o⟩
 ·have KND:Hid (az ⟨6,1,r,7,k,e,s⟩=((s==0)&&(((1:Int)==2) || !((7:Int)==1)))):=aaA rfl;cases a1:(s==0)
  all_goals
   go_wp2_with fail;go_ret;exact ⟨rB (by rw [G.o,KND.o]<;>first|rfl|(simp only [a1,hZ];done)|(simp only [a1,hZ];rfl)|simp [a1,hZ]),by first|exact K4.o|exact K3.o|exact K2.o⟩
 ·have KND:Hid (az ⟨7,1,r,7,k,e,s⟩=((s==0)&&(((1:Int)==2) || !((7:Int)==1)))):=aaA rfl;cases a1:(s==0)
  all_goals
   go_wp2_with fail;go_ret;exact ⟨rB (by rw [G.o,KND.o]<;>first|rfl|(simp only [a1,hZ];done)|(simp only [a1,hZ];rfl)|simp [a1,hZ]),by first|exact K4.o|exact K3.o|exact K2.o⟩
 ·have KND:Hid (az ⟨8,1,r,7,k,e,s⟩=((s==0)&&(((1:Int)==2) || !((7:Int)==1)))):=aaA rfl;cases a1:(s==0)
  all_goals
   go_wp2_with fail;go_ret;exact ⟨rB (by rw [G.o,KND.o]<;>first|rfl|(simp only [a1,hZ];done)|(simp only [a1,hZ];rfl)|simp [a1,hZ]),by first|exact K4.o|exact K3.o|exact K2.o⟩
 ·have KND:Hid (az ⟨9,1,r,7,k,e,s⟩=(((1:Int)==2)&&(s==0))):=aaA rfl;go_wp2_with fail;go_ret;exact ⟨rB (by rw [G.o,KND.o]<;>first|rfl|(simp only [hZ];done)|(simp only [hZ];rfl)|simp [hZ]),by first|exact K4.o|exact K3.o|exact K2.o⟩
 ·have KND:Hid (az ⟨10,1,r,7,k,e,s⟩=((((1:Int)==2)&&(s==0))&&fE (7:Int))):=aaA rfl;go_wp2_with (first|(go_at_call 106;refine st (jc _ _) ?_));go_ret;exact ⟨rB (by rw [G.o,KND.o]<;>first|rfl|(simp only [hZ];done)|(simp only [hZ];rfl)|simp [hZ]),by first|exact K4.o|exact K3.o|exact K2.o⟩
 ·have KND:Hid (az ⟨11,1,r,7,k,e,s⟩=(((r==0)&&decide (s<=3))&&(((7:Int)==0)||kD (7:Int)))):=aaA rfl;cases a1:(r==0)<;>cases a2:decide (s<=3)
  all_goals
   go_wp2_with (first|(go_at_call 105;refine st (lF _ _) ?_));go_ret;exact ⟨rB (by rw [G.o,KND.o]<;>first|rfl|(simp only [a1,a2,hZ];done)|(simp only [a1,a2,hZ];rfl)|simp [a1,a2,hZ]),by first|exact K4.o|exact K3.o|exact K2.o⟩
 ·have KND:Hid (az ⟨12,1,r,7,k,e,s⟩=(((7:Int)==0))):=aaA rfl;go_wp2_with fail;go_ret;exact ⟨rB (by rw [G.o,KND.o]<;>first|rfl|(simp only [hZ];done)|(simp only [hZ];rfl)|simp [hZ]),by first|exact K4.o|exact K3.o|exact K2.o⟩
 ·have KND:Hid (az ⟨13,1,r,7,k,e,s⟩=((((1:Int)==2)&&decide (r<=1))&&((7:Int)==7))):=aaA rfl;go_wp2_with fail;go_ret;exact ⟨rB (by rw [G.o,KND.o]<;>first|rfl|(simp only [hZ];done)|(simp only [hZ];rfl)|simp [hZ]),by first|exact K4.o|exact K3.o|exact K2.o⟩
 ·have KND:Hid (az ⟨14,1,r,7,k,e,s⟩=(((((1:Int)==2)&&(r==0))&&decide (s<=1))&&fE (7:Int))):=aaA rfl;go_wp2_with (first|(go_at_call 106;refine st (jc _ _) ?_));go_ret;exact ⟨rB (by rw [G.o,KND.o]<;>first|rfl|(simp only [hZ];done)|(simp only [hZ];rfl)|simp [hZ]),by first|exact K4.o|exact K3.o|exact K2.o⟩
 ·have KND:Hid (az ⟨15,1,r,7,k,e,s⟩=(bif s==3 then (((1:Int)==2)&&(r==0))&&jm (7:Int) e else ((((1:Int)==2)&&decide (s<=6))&&iq (7:Int) k e)&&(decide (3<s)||(r==0)))):=aaA rfl;cases a0:(s==3)
  all_goals
   go_wp2_with (first|(go_at_call 107;refine (lD 7 k e _).mono ?_;rintro e9 w3 ⟨rfl,k3⟩;have B3:=aaA (B2.o.ae k3);have K3:=aaA (K2.o.trans k3);have d0:=B3.o.all;clear k3)|(go_at_call 108;have z9:=B3;refine (dU 7 k e _).mono ?_;rintro e9 w4 ⟨rfl,k4⟩;rw [hZ];have B4:=aaA (B3.o.ae k4);have K4:=aaA (K3.o.trans k4);have f0:=B4.o.all;clear k4)|(go_at_call 108;refine (dU 7 k e _).mono ?_;rintro e9 w4 ⟨rfl,k4⟩;rw [hZ];have B4:=aaA (B2.o.ae k4);have K4:=aaA (K2.o.trans k4);have f0:=B4.o.all;clear k4));go_ret;exact ⟨rB (by rw [G.o,KND.o]<;>first|rfl|(simp only [a0,hZ];done)|(simp only [a0,hZ];rfl)|simp [a0,hZ]),by first|exact K4.o|exact K3.o|exact K2.o⟩
 ·have KND:Hid (az ⟨16,1,r,7,k,e,s⟩=((((1:Int)==2)&&(s==0)) && !((7:Int)==1))):=aaA rfl;go_wp2_with fail;go_ret;exact ⟨rB (by rw [G.o,KND.o]<;>first|rfl|(simp only [hZ];done)|(simp only [hZ];rfl)|simp [hZ]),by first|exact K4.o|exact K3.o|exact K2.o⟩
 ·have KND:Hid (az ⟨17,1,r,7,k,e,s⟩=((((1:Int)==2)&&(s==0)) && !((7:Int)==1))):=aaA rfl;go_wp2_with fail;go_ret;exact ⟨rB (by rw [G.o,KND.o]<;>first|rfl|(simp only [hZ];done)|(simp only [hZ];rfl)|simp [hZ]),by first|exact K4.o|exact K3.o|exact K2.o⟩
 ·have KND:Hid (az ⟨18,1,r,7,k,e,s⟩=(((!((1:Int)==2))&&decide (s<=1))&&((7:Int)==0))):=aaA rfl;cases a1:decide (s<=1)
  all_goals
   go_wp2_with fail;go_ret;exact ⟨rB (by rw [G.o,KND.o]<;>first|rfl|(simp only [a1,hZ];done)|(simp only [a1,hZ];rfl)|simp [a1,hZ]),by first|exact K4.o|exact K3.o|exact K2.o⟩
 ·have KND:Hid (az ⟨19,1,r,7,k,e,s⟩=(((1:Int)==2)&&((((s==0)&&(r==0))&&jm (7:Int) e)||((s==1)&&iq (7:Int) k e)))):=aaA rfl;go_wp2_with (first|(go_at_call 107;refine (lD 7 k e _).mono ?_;rintro e9 w3 ⟨rfl,k3⟩;rw [a3];have B3:=aaA (B2.o.ae k3);have K3:=aaA (K2.o.trans k3);have d0:=B3.o.all;clear k3)|(go_at_call 108;have z9:=B3;refine (dU 7 k e _).mono ?_;rintro e9 w4 ⟨rfl,k4⟩;rw [hZ];have B4:=aaA (B3.o.ae k4);have K4:=aaA (K3.o.trans k4);have f0:=B4.o.all;clear k4)|(go_at_call 108;refine (dU 7 k e _).mono ?_;rintro e9 w4 ⟨rfl,k4⟩;rw [hZ];have B4:=aaA (B2.o.ae k4);have K4:=aaA (K2.o.trans k4);have f0:=B4.o.all;clear k4));go_ret;exact ⟨rB (by rw [G.o,KND.o]<;>first|rfl|(simp only [hZ];done)|(simp only [hZ];rfl)|simp [hZ]),by first|exact K4.o|exact K3.o|exact K2.o⟩
 ·obtain ⟨q1,q2,q3,q4,q5,q6,q7,q8,q9,q10,q11,q12,q13,q14,q15,q16,q17,q18,q19⟩:=hno;have KND:Hid (az ⟨op,1,r,7,k,e,s⟩=false):=aaA (by simp [az,q1,q2,q3,q4,q5,q6,q7,q8,q9,q10,q11,q12,q13,q14,q15,q16,q17,q18,q19]);go_wp2_with fail;go_ret;exact ⟨rB (by rw [G.o,KND.o]),K2.o⟩
end Go.Proofs.YtgikibaajanjiaaGreatDoor
