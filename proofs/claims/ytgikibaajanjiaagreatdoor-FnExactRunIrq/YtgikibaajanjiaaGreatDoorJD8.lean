/- Part 8 of what the last text leans on. -/
import Derived.Test.YtgikibaajanjiaaGreatDoorJD7
set_option maxRecDepth 100000
set_option maxHeartbeats 16000000
namespace Go.Proofs.YtgikibaajanjiaaGreatDoor
open Pl
open Go.RowKit Go.Proofs.Tryz
set_option linter.unusedVariables false
set_option linter.unusedSimpArgs false
theorem GL (w:World) (op r m k e s:Int) (h2:within r 0 3=true) (h3:iP m k e=true) (h4:within s 0 7=true) (h6:(m==7)=false) :
  Calls prog 56 #[.agg (inA op 2 r m k e s)] w fun r' w'=>r'=.returned (.bool (bP ⟨op,2,r,m,k,e,s⟩))/\Kept 0 0 w w':=by
 have K0:=aba (kept_alloc w (.cells (inA op 2 r m k e s) 48));have B0:=aba (Blk.new w (inA op 2 r m k e s) 48);have G:Hid (bP ⟨op,2,r,m,k,e,s⟩=az ⟨op,2,r,m,k,e,s⟩):=aba (by simp only[bP,Pl.inBase,lS,h2,h3,h4,h6];rfl);have hN:jq m e=false:=by simp only[jq,h6];rfl
 go_enter func56,ntmps56;go_upto_region 5 with (first|(go_at_call 75;have z9:=B2;refine st (dF _ _ _ _) ?_;rw[show(decide (0<=s)&&decide (s<=7))=within s 0 7 from rfl,h4])|(go_at_call 103;refine st (uJ _) ?_)|(go_at_call 75;refine st (dF _ _ _ _) ?_;rw[show(decide (0<=r)&&decide (r<=3))=within r 0 3 from rfl,h2])|(go_at_call 104;refine(dS _ m k e).mono ?_;rintro e9 w2⟨rfl,k2⟩;rw[h3];have B2:=aba (B0.o.ae k2);have K2:=aba (K0.o.trans k2);have c0:=B2.o.all;clear k2));rcases yt op with rfl|rfl|rfl|rfl|rfl|rfl|rfl|rfl|rfl|rfl|rfl|rfl|rfl|rfl|rfl|rfl|rfl|rfl|rfl|hno
 ·have KND:Hid (az ⟨1,2,r,m,k,e,s⟩=((s==0)&&(((2:Int)==2) || !(m==1)))):=aba rfl;cases a1:(s==0)
  all_goals
   go_wp2_with fail;go_ret;exact⟨rB (by rw[G.o,KND.o]<;>first|rfl|(simp only[a1,hN,h6];done)|(simp only[a1,hN,h6];rfl)|simp[a1,hN,h6]),by first|exact K4.o|exact K3.o|exact K2.o⟩
 ·have KND:Hid (az ⟨2,2,r,m,k,e,s⟩=((s==0)&&((m==0)||kH m))):=aba rfl;cases a1:(s==0)<;>cases b1:(m==0)
  all_goals
   go_wp2_with (first|(go_at_call 105;refine st (lI _ _) ?_));go_ret;exact⟨rB (by rw[G.o,KND.o]<;>first|rfl|(simp only[a1,b1,hN,h6];done)|(simp only[a1,b1,hN,h6];rfl)|simp[a1,b1,hN,h6]),by first|exact K4.o|exact K3.o|exact K2.o⟩
 ·have KND:Hid (az ⟨3,2,r,m,k,e,s⟩=((s==0)&&(((2:Int)==2) || !(m==1)))):=aba rfl;cases a1:(s==0)
  all_goals
   go_wp2_with fail;go_ret;exact⟨rB (by rw[G.o,KND.o]<;>first|rfl|(simp only[a1,hN,h6];done)|(simp only[a1,hN,h6];rfl)|simp[a1,hN,h6]),by first|exact K4.o|exact K3.o|exact K2.o⟩
 ·have KND:Hid (az ⟨4,2,r,m,k,e,s⟩=((s==0)&&(((2:Int)==2) || !(m==1)))):=aba rfl;cases a1:(s==0)
  all_goals
   go_wp2_with fail;go_ret;exact⟨rB (by rw[G.o,KND.o]<;>first|rfl|(simp only[a1,hN,h6];done)|(simp only[a1,hN,h6];rfl)|simp[a1,hN,h6]),by first|exact K4.o|exact K3.o|exact K2.o⟩
 ·have KND:Hid (az ⟨5,2,r,m,k,e,s⟩=((s==0)&&(((2:Int)==2) || !(m==1)))):=aba rfl;cases a1:(s==0)
  all_goals
   go_wp2_with fail;go_ret;exact⟨rB (by rw[G.o,KND.o]<;>first|rfl|(simp only[a1,hN,h6];done)|(simp only[a1,hN,h6];rfl)|simp[a1,hN,h6]),by first|exact K4.o|exact K3.o|exact K2.o⟩
 ·have KND:Hid (az ⟨6,2,r,m,k,e,s⟩=((s==0)&&(((2:Int)==2) || !(m==1)))):=aba rfl;cases a1:(s==0)
  all_goals
   go_wp2_with fail;go_ret;exact⟨rB (by rw[G.o,KND.o]<;>first|rfl|(simp only[a1,hN,h6];done)|(simp only[a1,hN,h6];rfl)|simp[a1,hN,h6]),by first|exact K4.o|exact K3.o|exact K2.o⟩
 ·have KND:Hid (az ⟨7,2,r,m,k,e,s⟩=((s==0)&&(((2:Int)==2) || !(m==1)))):=aba rfl;cases a1:(s==0)
  all_goals
   go_wp2_with fail;go_ret;exact⟨rB (by rw[G.o,KND.o]<;>first|rfl|(simp only[a1,hN,h6];done)|(simp only[a1,hN,h6];rfl)|simp[a1,hN,h6]),by first|exact K4.o|exact K3.o|exact K2.o⟩
 ·have KND:Hid (az ⟨8,2,r,m,k,e,s⟩=((s==0)&&(((2:Int)==2) || !(m==1)))):=aba rfl;cases a1:(s==0)
  all_goals
   go_wp2_with fail;go_ret;exact⟨rB (by rw[G.o,KND.o]<;>first|rfl|(simp only[a1,hN,h6];done)|(simp only[a1,hN,h6];rfl)|simp[a1,hN,h6]),by first|exact K4.o|exact K3.o|exact K2.o⟩
 ·have KND:Hid (az ⟨9,2,r,m,k,e,s⟩=(((2:Int)==2)&&(s==0))):=aba rfl;go_wp2_with fail;go_ret;exact⟨rB (by rw[G.o,KND.o]<;>first|rfl|(simp only[hN,h6];done)|(simp only[hN,h6];rfl)|simp[hN,h6]),by first|exact K4.o|exact K3.o|exact K2.o⟩
 ·have KND:Hid (az ⟨10,2,r,m,k,e,s⟩=((((2:Int)==2)&&(s==0))&&fF m)):=aba rfl;cases a1:(s==0)
  all_goals
   go_wp2_with (first|(go_at_call 106;refine st (je _ _) ?_));go_ret;exact⟨rB (by rw[G.o,KND.o]<;>first|rfl|(simp only[a1,hN,h6];done)|(simp only[a1,hN,h6];rfl)|simp[a1,hN,h6]),by first|exact K4.o|exact K3.o|exact K2.o⟩
 ·have KND:Hid (az ⟨11,2,r,m,k,e,s⟩=(((r==0)&&decide (s<=3))&&((m==0)||kH m))):=aba rfl;cases a1:(r==0)<;>cases a2:decide (s<=3)<;>cases b1:(m==0)
  all_goals
   go_wp2_with (first|(go_at_call 105;refine st (lI _ _) ?_));go_ret;exact⟨rB (by rw[G.o,KND.o]<;>first|rfl|(simp only[a1,a2,b1,hN,h6];done)|(simp only[a1,a2,b1,hN,h6];rfl)|simp[a1,a2,b1,hN,h6]),by first|exact K4.o|exact K3.o|exact K2.o⟩
 ·have KND:Hid (az ⟨12,2,r,m,k,e,s⟩=((m==0))):=aba rfl;go_wp2_with fail;go_ret;exact⟨rB (by rw[G.o,KND.o]<;>first|rfl|(simp only[hN,h6];done)|(simp only[hN,h6];rfl)|simp[hN,h6]),by first|exact K4.o|exact K3.o|exact K2.o⟩
 ·have KND:Hid (az ⟨13,2,r,m,k,e,s⟩=((((2:Int)==2)&&decide (r<=1))&&(m==7))):=aba rfl;cases a1:decide (r<=1)
  all_goals
   go_wp2_with fail;go_ret;exact⟨rB (by rw[G.o,KND.o]<;>first|rfl|(simp only[a1,hN,h6];done)|(simp only[a1,hN,h6];rfl)|simp[a1,hN,h6]),by first|exact K4.o|exact K3.o|exact K2.o⟩
 ·have KND:Hid (az ⟨14,2,r,m,k,e,s⟩=(((((2:Int)==2)&&(r==0))&&decide (s<=1))&&fF m)):=aba rfl;cases a1:(r==0)<;>cases a2:decide (s<=1)
  all_goals
   go_wp2_with (first|(go_at_call 106;refine st (je _ _) ?_));go_ret;exact⟨rB (by rw[G.o,KND.o]<;>first|rfl|(simp only[a1,a2,hN,h6];done)|(simp only[a1,a2,hN,h6];rfl)|simp[a1,a2,hN,h6]),by first|exact K4.o|exact K3.o|exact K2.o⟩
 ·have KND:Hid (az ⟨15,2,r,m,k,e,s⟩=(bif s==3 then (((2:Int)==2)&&(r==0))&&jq m e else ((((2:Int)==2)&&decide (s<=6))&&iw m k e)&&(decide (3<s)||(r==0)))):=aba rfl;cases a0:(s==3)<;>cases a1:(r==0)<;>cases a2:decide (s<=6)<;>cases a3:iw m k e<;>cases a4:decide (3<s)
  all_goals
   go_wp2_with (first|(go_at_call 107;refine(lH m k e _).mono ?_;rintro e9 w3⟨rfl,k3⟩;rw[hN];have B3:=aba (B2.o.ae k3);have K3:=aba (K2.o.trans k3);have d0:=B3.o.all;clear k3)|(go_at_call 108;have z9:=B3;refine(dV m k e _).mono ?_;rintro e9 w4⟨rfl,k4⟩;rw[a3];have B4:=aba (B3.o.ae k4);have K4:=aba (K3.o.trans k4);have f0:=B4.o.all;clear k4)|(go_at_call 108;refine(dV m k e _).mono ?_;rintro e9 w4⟨rfl,k4⟩;rw[a3];have B4:=aba (B2.o.ae k4);have K4:=aba (K2.o.trans k4);have f0:=B4.o.all;clear k4));go_ret;exact⟨rB (by rw[G.o,KND.o]<;>first|rfl|(simp only[a0,a1,a2,a3,a4,hN,h6];done)|(simp only[a0,a1,a2,a3,a4,hN,h6];rfl)|simp[a0,a1,a2,a3,a4,hN,h6]),by first|exact K4.o|exact K3.o|exact K2.o⟩
 ·have KND:Hid (az ⟨16,2,r,m,k,e,s⟩=((((2:Int)==2)&&(s==0)) && !(m==1))):=aba rfl;cases a1:(s==0)
  all_goals
   go_wp2_with fail;go_ret;exact⟨rB (by rw[G.o,KND.o]<;>first|rfl|(simp only[a1,hN,h6];done)|(simp only[a1,hN,h6];rfl)|simp[a1,hN,h6]),by first|exact K4.o|exact K3.o|exact K2.o⟩
 ·have KND:Hid (az ⟨17,2,r,m,k,e,s⟩=((((2:Int)==2)&&(s==0)) && !(m==1))):=aba rfl;cases a1:(s==0)
  all_goals
   go_wp2_with fail;go_ret;exact⟨rB (by rw[G.o,KND.o]<;>first|rfl|(simp only[a1,hN,h6];done)|(simp only[a1,hN,h6];rfl)|simp[a1,hN,h6]),by first|exact K4.o|exact K3.o|exact K2.o⟩
 ·have KND:Hid (az ⟨18,2,r,m,k,e,s⟩=(((!((2:Int)==2))&&decide (s<=1))&&(m==0))):=aba rfl;go_wp2_with fail;go_ret;exact⟨rB (by rw[G.o,KND.o]<;>first|rfl|(simp only[hN,h6];done)|(simp only[hN,h6];rfl)|simp[hN,h6]),by first|exact K4.o|exact K3.o|exact K2.o⟩
 ·have KND:Hid (az ⟨19,2,r,m,k,e,s⟩=(((2:Int)==2)&&((((s==0)&&(r==0))&&jq m e)||((s==1)&&iw m k e)))):=aba rfl;cases a1:(s==0)<;>cases a2:(r==0)<;>cases a4:(s==1)
  all_goals
   go_wp2_with (first|(go_at_call 107;refine(lH m k e _).mono ?_;rintro e9 w3⟨rfl,k3⟩;rw[hN];have B3:=aba (B2.o.ae k3);have K3:=aba (K2.o.trans k3);have d0:=B3.o.all;clear k3)|(go_at_call 108;have z9:=B3;refine(dV m k e _).mono ?_;rintro e9 w4⟨rfl,k4⟩;have B4:=aba (B3.o.ae k4);have K4:=aba (K3.o.trans k4);have f0:=B4.o.all;clear k4)|(go_at_call 108;refine(dV m k e _).mono ?_;rintro e9 w4⟨rfl,k4⟩;have B4:=aba (B2.o.ae k4);have K4:=aba (K2.o.trans k4);have f0:=B4.o.all;clear k4));go_ret;exact⟨rB (by rw[G.o,KND.o]<;>first|rfl|(simp only[a1,a2,a4,hN,h6];done)|(simp only[a1,a2,a4,hN,h6];rfl)|simp[a1,a2,a4,hN,h6]),by first|exact K4.o|exact K3.o|exact K2.o⟩
 ·obtain⟨q1,q2,q3,q4,q5,q6,q7,q8,q9,q10,q11,q12,q13,q14,q15,q16,q17,q18,q19⟩:=hno;have KND:Hid (az ⟨op,2,r,m,k,e,s⟩=false):=aba (by simp[az,q1,q2,q3,q4,q5,q6,q7,q8,q9,q10,q11,q12,q13,q14,q15,q16,q17,q18,q19]);go_wp2_with fail;go_ret;exact⟨rB (by rw[G.o,KND.o]),K2.o⟩
end Go.Proofs.YtgikibaajanjiaaGreatDoor
