/- Part 5 of what the last text leans on. -/
import Derived.Test.YtkkmnnhaailkcaaGreatDoorJB4
import Derived.Deep.DeepCutAuto
set_option maxRecDepth 100000
set_option maxHeartbeats 16000000
namespace Go.Proofs.YtkkmnnhaailkcaaGreatDoor
open Go.RowKit Go.Proofs.Tryz
set_option linter.unusedVariables false
set_option linter.unusedSimpArgs false
theorem Gf (w:World) (op r m k e s:Int) (h2:Pl.within r 0 3=true) (h3:Pl.iY m k e=true) (h4:Pl.within s 0 7=true) (h6:(m==7)=false) :
  Calls prog 102 #[.agg (inA op 2 r m k e s)] w fun r' w'=>r'=.returned (.bool (Pl.dH ⟨op,2,r,m,k,e,s⟩))∧Kept 0 0 w w':=by
 have K0:=hide (kept_alloc w (.cells (inA op 2 r m k e s) 109))
 have B0:=hide (Blk.new w (inA op 2 r m k e s) 109)
 have G:Hid (Pl.dH ⟨op,2,r,m,k,e,s⟩=Pl.ay ⟨op,2,r,m,k,e,s⟩):=hide (by simp only [Pl.dH,Pl.inBase,Pl.lT,h2,h3,h4,h6];rfl)
 have hN:Pl.jA m e=false:=by simp only [Pl.jA,h6];rfl
 go_enter func102,ntmps102
 go_upto_region 5 with (first|(go_at_call 40;have z9:=B2;refine st (dY _ _ _ _) ?_;rw [show (decide (0≤s)&&decide (s≤7))=Pl.within s 0 7 from rfl,h4])|(go_at_call 136;refine st (uK _) ?_)|(go_at_call 40;refine st (dY _ _ _ _) ?_;rw [show (decide (0≤r)&&decide (r≤3))=Pl.within r 0 3 from rfl,h2])|(go_at_call 137;refine (eU _ m k e).mono ?_;rintro e9 w2 ⟨rfl,k2⟩;rw [h3];have B2:=hide (B0.o.af k2);have K2:=hide (K0.o.trans k2);have c0:=B2.o.all;clear k2))
 rcases xX op with rfl|rfl|rfl|rfl|rfl|rfl|rfl|rfl|rfl|rfl|rfl|rfl|rfl|rfl|rfl|rfl|rfl|rfl|rfl|hno
 ·have KND:Hid (Pl.ay ⟨1,2,r,m,k,e,s⟩=((s==0)&&(((2:Int)==2) || !(m==1)))):=hide rfl
  cases a1:(s==0)
  all_goals
   go_wp2_with fail
   go_ret
   exact ⟨rB (by rw [G.o,KND.o]<;>first|rfl|(simp only [a1,hN,h6];done)|(simp only [a1,hN,h6];rfl)|simp [a1,hN,h6]),by first|exact K4.o|exact K3.o|exact K2.o⟩
 ·have KND:Hid (Pl.ay ⟨2,2,r,m,k,e,s⟩=((s==0)&&((m==0)||Pl.kG m))):=hide rfl
  cases a1:(s==0)<;>cases b1:(m==0)
  all_goals
   go_wp2_with (first|(go_at_call 138;refine st (lK _ _) ?_))
   go_ret
   exact ⟨rB (by rw [G.o,KND.o]<;>first|rfl|(simp only [a1,b1,hN,h6];done)|(simp only [a1,b1,hN,h6];rfl)|simp [a1,b1,hN,h6]),by first|exact K4.o|exact K3.o|exact K2.o⟩
 ·have KND:Hid (Pl.ay ⟨3,2,r,m,k,e,s⟩=((s==0)&&(((2:Int)==2) || !(m==1)))):=hide rfl
  cases a1:(s==0)
  all_goals
   go_wp2_with fail
   go_ret
   exact ⟨rB (by rw [G.o,KND.o]<;>first|rfl|(simp only [a1,hN,h6];done)|(simp only [a1,hN,h6];rfl)|simp [a1,hN,h6]),by first|exact K4.o|exact K3.o|exact K2.o⟩
 ·have KND:Hid (Pl.ay ⟨4,2,r,m,k,e,s⟩=((s==0)&&(((2:Int)==2) || !(m==1)))):=hide rfl
  cases a1:(s==0)
  all_goals
   go_wp2_with fail
   go_ret
   exact ⟨rB (by rw [G.o,KND.o]<;>first|rfl|(simp only [a1,hN,h6];done)|(simp only [a1,hN,h6];rfl)|simp [a1,hN,h6]),by first|exact K4.o|exact K3.o|exact K2.o⟩
 ·have KND:Hid (Pl.ay ⟨5,2,r,m,k,e,s⟩=((s==0)&&(((2:Int)==2) || !(m==1)))):=hide rfl
  cases a1:(s==0)
  all_goals
   go_wp2_with fail
   go_ret
   exact ⟨rB (by rw [G.o,KND.o]<;>first|rfl|(simp only [a1,hN,h6];done)|(simp only [a1,hN,h6];rfl)|simp [a1,hN,h6]),by first|exact K4.o|exact K3.o|exact K2.o⟩
 ·have KND:Hid (Pl.ay ⟨6,2,r,m,k,e,s⟩=((s==0)&&(((2:Int)==2) || !(m==1)))):=hide rfl
  cases a1:(s==0)
  all_goals
   go_wp2_with fail
   go_ret
   exact ⟨rB (by rw [G.o,KND.o]<;>first|rfl|(simp only [a1,hN,h6];done)|(simp only [a1,hN,h6];rfl)|simp [a1,hN,h6]),by first|exact K4.o|exact K3.o|exact K2.o⟩
 ·have KND:Hid (Pl.ay ⟨7,2,r,m,k,e,s⟩=((s==0)&&(((2:Int)==2) || !(m==1)))):=hide rfl
  cases a1:(s==0)
  all_goals
   go_wp2_with fail
   go_ret
   exact ⟨rB (by rw [G.o,KND.o]<;>first|rfl|(simp only [a1,hN,h6];done)|(simp only [a1,hN,h6];rfl)|simp [a1,hN,h6]),by first|exact K4.o|exact K3.o|exact K2.o⟩
 ·have KND:Hid (Pl.ay ⟨8,2,r,m,k,e,s⟩=((s==0)&&(((2:Int)==2) || !(m==1)))):=hide rfl
  cases a1:(s==0)
  all_goals
   go_wp2_with fail
   go_ret
   exact ⟨rB (by rw [G.o,KND.o]<;>first|rfl|(simp only [a1,hN,h6];done)|(simp only [a1,hN,h6];rfl)|simp [a1,hN,h6]),by first|exact K4.o|exact K3.o|exact K2.o⟩
 ·have KND:Hid (Pl.ay ⟨9,2,r,m,k,e,s⟩=(((2:Int)==2)&&(s==0))):=hide rfl
  go_wp2_with fail
  go_ret
  exact ⟨rB (by rw [G.o,KND.o]<;>first|rfl|(simp only [hN,h6];done)|(simp only [hN,h6];rfl)|simp [hN,h6]),by first|exact K4.o|exact K3.o|exact K2.o⟩
 ·have KND:Hid (Pl.ay ⟨10,2,r,m,k,e,s⟩=((((2:Int)==2)&&(s==0))&&Pl.fO m)):=hide rfl
  cases a1:(s==0)
  all_goals
   go_wp2_with (first|(go_at_call 139;refine st (jo _ _) ?_))
   go_ret
   exact ⟨rB (by rw [G.o,KND.o]<;>first|rfl|(simp only [a1,hN,h6];done)|(simp only [a1,hN,h6];rfl)|simp [a1,hN,h6]),by first|exact K4.o|exact K3.o|exact K2.o⟩
 ·have KND:Hid (Pl.ay ⟨11,2,r,m,k,e,s⟩=(((r==0)&&decide (s≤3))&&((m==0)||Pl.kG m))):=hide rfl
  cases a1:(r==0)<;>cases a2:decide (s≤3)<;>cases b1:(m==0)
  all_goals
   go_wp2_with (first|(go_at_call 138;refine st (lK _ _) ?_))
   go_ret
   exact ⟨rB (by rw [G.o,KND.o]<;>first|rfl|(simp only [a1,a2,b1,hN,h6];done)|(simp only [a1,a2,b1,hN,h6];rfl)|simp [a1,a2,b1,hN,h6]),by first|exact K4.o|exact K3.o|exact K2.o⟩
 ·have KND:Hid (Pl.ay ⟨12,2,r,m,k,e,s⟩=((m==0))):=hide rfl
  go_wp2_with fail
  go_ret
  exact ⟨rB (by rw [G.o,KND.o]<;>first|rfl|(simp only [hN,h6];done)|(simp only [hN,h6];rfl)|simp [hN,h6]),by first|exact K4.o|exact K3.o|exact K2.o⟩
 ·have KND:Hid (Pl.ay ⟨13,2,r,m,k,e,s⟩=((((2:Int)==2)&&decide (r≤1))&&(m==7))):=hide rfl
  cases a1:decide (r≤1)
  all_goals
   go_wp2_with fail
   go_ret
   exact ⟨rB (by rw [G.o,KND.o]<;>first|rfl|(simp only [a1,hN,h6];done)|(simp only [a1,hN,h6];rfl)|simp [a1,hN,h6]),by first|exact K4.o|exact K3.o|exact K2.o⟩
 ·have KND:Hid (Pl.ay ⟨14,2,r,m,k,e,s⟩=(((((2:Int)==2)&&(r==0))&&decide (s≤1))&&Pl.fO m)):=hide rfl
  cases a1:(r==0)<;>cases a2:decide (s≤1)
  all_goals
   go_wp2_with (first|(go_at_call 139;refine st (jo _ _) ?_))
   go_ret
   exact ⟨rB (by rw [G.o,KND.o]<;>first|rfl|(simp only [a1,a2,hN,h6];done)|(simp only [a1,a2,hN,h6];rfl)|simp [a1,a2,hN,h6]),by first|exact K4.o|exact K3.o|exact K2.o⟩
 ·have KND:Hid (Pl.ay ⟨15,2,r,m,k,e,s⟩=(bif s==3 then (((2:Int)==2)&&(r==0))&&Pl.jA m e else ((((2:Int)==2)&&decide (s≤6))&&Pl.iF m k e)&&(decide (3<s)||(r==0)))):=hide rfl
  cases a0:(s==3)<;>cases a1:(r==0)<;>cases a2:decide (s≤6)<;>cases a3:Pl.iF m k e<;>cases a4:decide (3<s)
  all_goals
   go_wp2_with (first|(go_at_call 140;refine (lJ m k e _).mono ?_;rintro e9 w3 ⟨rfl,k3⟩;rw [hN];have B3:=hide (B2.o.af k3);have K3:=hide (K2.o.trans k3);have d0:=B3.o.all;clear k3)|(go_at_call 141;have z9:=B3;refine (fB m k e _).mono ?_;rintro e9 w4 ⟨rfl,k4⟩;rw [a3];have B4:=hide (B3.o.af k4);have K4:=hide (K3.o.trans k4);have f0:=B4.o.all;clear k4)|(go_at_call 141;refine (fB m k e _).mono ?_;rintro e9 w4 ⟨rfl,k4⟩;rw [a3];have B4:=hide (B2.o.af k4);have K4:=hide (K2.o.trans k4);have f0:=B4.o.all;clear k4))
   go_ret
   exact ⟨rB (by rw [G.o,KND.o]<;>first|rfl|(simp only [a0,a1,a2,a3,a4,hN,h6];done)|(simp only [a0,a1,a2,a3,a4,hN,h6];rfl)|simp [a0,a1,a2,a3,a4,hN,h6]),by first|exact K4.o|exact K3.o|exact K2.o⟩
 ·have KND:Hid (Pl.ay ⟨16,2,r,m,k,e,s⟩=((((2:Int)==2)&&(s==0)) && !(m==1))):=hide rfl
  cases a1:(s==0)
  all_goals
   go_wp2_with fail
   go_ret
   exact ⟨rB (by rw [G.o,KND.o]<;>first|rfl|(simp only [a1,hN,h6];done)|(simp only [a1,hN,h6];rfl)|simp [a1,hN,h6]),by first|exact K4.o|exact K3.o|exact K2.o⟩
 ·have KND:Hid (Pl.ay ⟨17,2,r,m,k,e,s⟩=((((2:Int)==2)&&(s==0)) && !(m==1))):=hide rfl
  cases a1:(s==0)
  all_goals
   go_wp2_with fail
   go_ret
   exact ⟨rB (by rw [G.o,KND.o]<;>first|rfl|(simp only [a1,hN,h6];done)|(simp only [a1,hN,h6];rfl)|simp [a1,hN,h6]),by first|exact K4.o|exact K3.o|exact K2.o⟩
 ·have KND:Hid (Pl.ay ⟨18,2,r,m,k,e,s⟩=(((!((2:Int)==2))&&decide (s≤1))&&(m==0))):=hide rfl
  go_wp2_with fail
  go_ret
  exact ⟨rB (by rw [G.o,KND.o]<;>first|rfl|(simp only [hN,h6];done)|(simp only [hN,h6];rfl)|simp [hN,h6]),by first|exact K4.o|exact K3.o|exact K2.o⟩
 ·have KND:Hid (Pl.ay ⟨19,2,r,m,k,e,s⟩=(((2:Int)==2)&&((((s==0)&&(r==0))&&Pl.jA m e)||((s==1)&&Pl.iF m k e)))):=hide rfl
  cases a1:(s==0)<;>cases a2:(r==0)<;>cases a4:(s==1)
  all_goals
   go_wp2_with (first|(go_at_call 140;refine (lJ m k e _).mono ?_;rintro e9 w3 ⟨rfl,k3⟩;rw [hN];have B3:=hide (B2.o.af k3);have K3:=hide (K2.o.trans k3);have d0:=B3.o.all;clear k3)|(go_at_call 141;have z9:=B3;refine (fB m k e _).mono ?_;rintro e9 w4 ⟨rfl,k4⟩;have B4:=hide (B3.o.af k4);have K4:=hide (K3.o.trans k4);have f0:=B4.o.all;clear k4)|(go_at_call 141;refine (fB m k e _).mono ?_;rintro e9 w4 ⟨rfl,k4⟩;have B4:=hide (B2.o.af k4);have K4:=hide (K2.o.trans k4);have f0:=B4.o.all;clear k4))
   go_ret
   exact ⟨rB (by rw [G.o,KND.o]<;>first|rfl|(simp only [a1,a2,a4,hN,h6];done)|(simp only [a1,a2,a4,hN,h6];rfl)|simp [a1,a2,a4,hN,h6]),by first|exact K4.o|exact K3.o|exact K2.o⟩
 ·obtain ⟨q1,q2,q3,q4,q5,q6,q7,q8,q9,q10,q11,q12,q13,q14,q15,q16,q17,q18,q19⟩:=hno
  have KND:Hid (Pl.ay ⟨op,2,r,m,k,e,s⟩=false):=hide (by simp [Pl.ay,q1,q2,q3,q4,q5,q6,q7,q8,q9,q10,q11,q12,q13,q14,q15,q16,q17,q18,q19])
  go_wp2_with fail
  go_ret
  exact ⟨rB (by rw [G.o,KND.o]),K2.o⟩
set_option linter.unusedSimpArgs false
theorem F9 (w:World) (op r k e s:Int) (h2:Pl.within r 0 3=true) (h3:Pl.iY 7 k e=true) (h4:Pl.within s 0 7=true) (h8:decide (255<e)=false) :
  Calls prog 102 #[.agg (inA op 1 r 7 k e s)] w fun r' w'=>r'=.returned (.bool (Pl.dH ⟨op,1,r,7,k,e,s⟩))∧Kept 0 0 w w':=by
 have K0:=hide (kept_alloc w (.cells (inA op 1 r 7 k e s) 109))
 have B0:=hide (Blk.new w (inA op 1 r 7 k e s) 109)
 have G:Hid (Pl.dH ⟨op,1,r,7,k,e,s⟩=Pl.ay ⟨op,1,r,7,k,e,s⟩):=hide (by simp only [Pl.dH,Pl.inBase,Pl.lT,h2,h3,h4];simp at h8;simp;omega)
 have hZ:Pl.iF 7 k e=false:=rfl
 go_enter func102,ntmps102
 go_upto_region 5 with (first|(go_at_call 40;have z9:=B2;refine st (dY _ _ _ _) ?_;rw [show (decide (0≤s)&&decide (s≤7))=Pl.within s 0 7 from rfl,h4])|(go_at_call 136;refine st (uM _) ?_)|(go_at_call 40;refine st (dY _ _ _ _) ?_;rw [show (decide (0≤r)&&decide (r≤3))=Pl.within r 0 3 from rfl,h2])|(go_at_call 137;refine (eU _ 7 k e).mono ?_;rintro e9 w2 ⟨rfl,k2⟩;rw [h3];have B2:=hide (B0.o.af k2);have K2:=hide (K0.o.trans k2);have c0:=B2.o.all;clear k2))
 rcases xX op with rfl|rfl|rfl|rfl|rfl|rfl|rfl|rfl|rfl|rfl|rfl|rfl|rfl|rfl|rfl|rfl|rfl|rfl|rfl|hno
 ·have KND:Hid (Pl.ay ⟨1,1,r,7,k,e,s⟩=((s==0)&&(((1:Int)==2) || !((7:Int)==1)))):=hide rfl
  cases a1:(s==0)
  all_goals
   go_wp2_with fail
   go_ret
   exact ⟨rB (by rw [G.o,KND.o]<;>first|rfl|(simp only [a1,hZ];done)|(simp only [a1,hZ];rfl)|simp [a1,hZ]),by first|exact K4.o|exact K3.o|exact K2.o⟩
 ·have KND:Hid (Pl.ay ⟨2,1,r,7,k,e,s⟩=((s==0)&&(((7:Int)==0)||Pl.kG (7:Int)))):=hide rfl
  cases a1:(s==0)
  all_goals
   go_wp2_with (first|(go_at_call 138;refine st (lK _ _) ?_))
   go_ret
   exact ⟨rB (by rw [G.o,KND.o]<;>first|rfl|(simp only [a1,hZ];done)|(simp only [a1,hZ];rfl)|simp [a1,hZ]),by first|exact K4.o|exact K3.o|exact K2.o⟩
 ·have KND:Hid (Pl.ay ⟨3,1,r,7,k,e,s⟩=((s==0)&&(((1:Int)==2) || !((7:Int)==1)))):=hide rfl
  cases a1:(s==0)
  all_goals
   go_wp2_with fail
   go_ret
   exact ⟨rB (by rw [G.o,KND.o]<;>first|rfl|(simp only [a1,hZ];done)|(simp only [a1,hZ];rfl)|simp [a1,hZ]),by first|exact K4.o|exact K3.o|exact K2.o⟩
 ·have KND:Hid (Pl.ay ⟨4,1,r,7,k,e,s⟩=((s==0)&&(((1:Int)==2) || !((7:Int)==1)))):=hide rfl
  cases a1:(s==0)
  all_goals
   go_wp2_with fail
   go_ret
   exact ⟨rB (by rw [G.o,KND.o]<;>first|rfl|(simp only [a1,hZ];done)|(simp only [a1,hZ];rfl)|simp [a1,hZ]),by first|exact K4.o|exact K3.o|exact K2.o⟩
 ·have KND:Hid (Pl.ay ⟨5,1,r,7,k,e,s⟩=((s==0)&&(((1:Int)==2) || !((7:Int)==1)))):=hide rfl
  cases a1:(s==0)
  all_goals
   go_wp2_with fail
   go_ret
   exact ⟨rB (by rw [G.o,KND.o]<;>first|rfl|(simp only [a1,hZ];done)|(simp only [a1,hZ];rfl)|simp [a1,hZ]),by first|exact K4.o|exact K3.o|exact K2.o⟩
 ·have KND:Hid (Pl.ay ⟨6,1,r,7,k,e,s⟩=((s==0)&&(((1:Int)==2) || !((7:Int)==1)))):=hide rfl
  cases a1:(s==0)
  all_goals
   go_wp2_with fail
   go_ret
   exact ⟨rB (by rw [G.o,KND.o]<;>first|rfl|(simp only [a1,hZ];done)|(simp only [a1,hZ];rfl)|simp [a1,hZ]),by first|exact K4.o|exact K3.o|exact K2.o⟩
 ·have KND:Hid (Pl.ay ⟨7,1,r,7,k,e,s⟩=((s==0)&&(((1:Int)==2) || !((7:Int)==1)))):=hide rfl
  cases a1:(s==0)
  all_goals
   go_wp2_with fail
   go_ret
   exact ⟨rB (by rw [G.o,KND.o]<;>first|rfl|(simp only [a1,hZ];done)|(simp only [a1,hZ];rfl)|simp [a1,hZ]),by first|exact K4.o|exact K3.o|exact K2.o⟩
 ·have KND:Hid (Pl.ay ⟨8,1,r,7,k,e,s⟩=((s==0)&&(((1:Int)==2) || !((7:Int)==1)))):=hide rfl
  cases a1:(s==0)
  all_goals
   go_wp2_with fail
   go_ret
   exact ⟨rB (by rw [G.o,KND.o]<;>first|rfl|(simp only [a1,hZ];done)|(simp only [a1,hZ];rfl)|simp [a1,hZ]),by first|exact K4.o|exact K3.o|exact K2.o⟩
 ·have KND:Hid (Pl.ay ⟨9,1,r,7,k,e,s⟩=(((1:Int)==2)&&(s==0))):=hide rfl
  go_wp2_with fail
  go_ret
  exact ⟨rB (by rw [G.o,KND.o]<;>first|rfl|(simp only [hZ];done)|(simp only [hZ];rfl)|simp [hZ]),by first|exact K4.o|exact K3.o|exact K2.o⟩
 ·have KND:Hid (Pl.ay ⟨10,1,r,7,k,e,s⟩=((((1:Int)==2)&&(s==0))&&Pl.fO (7:Int))):=hide rfl
  go_wp2_with (first|(go_at_call 139;refine st (jo _ _) ?_))
  go_ret
  exact ⟨rB (by rw [G.o,KND.o]<;>first|rfl|(simp only [hZ];done)|(simp only [hZ];rfl)|simp [hZ]),by first|exact K4.o|exact K3.o|exact K2.o⟩
 ·have KND:Hid (Pl.ay ⟨11,1,r,7,k,e,s⟩=(((r==0)&&decide (s≤3))&&(((7:Int)==0)||Pl.kG (7:Int)))):=hide rfl
  cases a1:(r==0)<;>cases a2:decide (s≤3)
  all_goals
   go_wp2_with (first|(go_at_call 138;refine st (lK _ _) ?_))
   go_ret
   exact ⟨rB (by rw [G.o,KND.o]<;>first|rfl|(simp only [a1,a2,hZ];done)|(simp only [a1,a2,hZ];rfl)|simp [a1,a2,hZ]),by first|exact K4.o|exact K3.o|exact K2.o⟩
 ·have KND:Hid (Pl.ay ⟨12,1,r,7,k,e,s⟩=(((7:Int)==0))):=hide rfl
  go_wp2_with fail
  go_ret
  exact ⟨rB (by rw [G.o,KND.o]<;>first|rfl|(simp only [hZ];done)|(simp only [hZ];rfl)|simp [hZ]),by first|exact K4.o|exact K3.o|exact K2.o⟩
 ·have KND:Hid (Pl.ay ⟨13,1,r,7,k,e,s⟩=((((1:Int)==2)&&decide (r≤1))&&((7:Int)==7))):=hide rfl
  go_wp2_with fail
  go_ret
  exact ⟨rB (by rw [G.o,KND.o]<;>first|rfl|(simp only [hZ];done)|(simp only [hZ];rfl)|simp [hZ]),by first|exact K4.o|exact K3.o|exact K2.o⟩
 ·have KND:Hid (Pl.ay ⟨14,1,r,7,k,e,s⟩=(((((1:Int)==2)&&(r==0))&&decide (s≤1))&&Pl.fO (7:Int))):=hide rfl
  go_wp2_with (first|(go_at_call 139;refine st (jo _ _) ?_))
  go_ret
  exact ⟨rB (by rw [G.o,KND.o]<;>first|rfl|(simp only [hZ];done)|(simp only [hZ];rfl)|simp [hZ]),by first|exact K4.o|exact K3.o|exact K2.o⟩
 ·have KND:Hid (Pl.ay ⟨15,1,r,7,k,e,s⟩=(bif s==3 then (((1:Int)==2)&&(r==0))&&Pl.jA (7:Int) e else ((((1:Int)==2)&&decide (s≤6))&&Pl.iF (7:Int) k e)&&(decide (3<s)||(r==0)))):=hide rfl
  cases a0:(s==3)
  all_goals
   go_wp2_with (first|(go_at_call 140;refine (lJ 7 k e _).mono ?_;rintro e9 w3 ⟨rfl,k3⟩;have B3:=hide (B2.o.af k3);have K3:=hide (K2.o.trans k3);have d0:=B3.o.all;clear k3)|(go_at_call 141;have z9:=B3;refine (fB 7 k e _).mono ?_;rintro e9 w4 ⟨rfl,k4⟩;rw [hZ];have B4:=hide (B3.o.af k4);have K4:=hide (K3.o.trans k4);have f0:=B4.o.all;clear k4)|(go_at_call 141;refine (fB 7 k e _).mono ?_;rintro e9 w4 ⟨rfl,k4⟩;rw [hZ];have B4:=hide (B2.o.af k4);have K4:=hide (K2.o.trans k4);have f0:=B4.o.all;clear k4))
   go_ret
   exact ⟨rB (by rw [G.o,KND.o]<;>first|rfl|(simp only [a0,hZ];done)|(simp only [a0,hZ];rfl)|simp [a0,hZ]),by first|exact K4.o|exact K3.o|exact K2.o⟩
 ·have KND:Hid (Pl.ay ⟨16,1,r,7,k,e,s⟩=((((1:Int)==2)&&(s==0)) && !((7:Int)==1))):=hide rfl
  go_wp2_with fail
  go_ret
  exact ⟨rB (by rw [G.o,KND.o]<;>first|rfl|(simp only [hZ];done)|(simp only [hZ];rfl)|simp [hZ]),by first|exact K4.o|exact K3.o|exact K2.o⟩
 ·have KND:Hid (Pl.ay ⟨17,1,r,7,k,e,s⟩=((((1:Int)==2)&&(s==0)) && !((7:Int)==1))):=hide rfl
  go_wp2_with fail
  go_ret
  exact ⟨rB (by rw [G.o,KND.o]<;>first|rfl|(simp only [hZ];done)|(simp only [hZ];rfl)|simp [hZ]),by first|exact K4.o|exact K3.o|exact K2.o⟩
 ·have KND:Hid (Pl.ay ⟨18,1,r,7,k,e,s⟩=(((!((1:Int)==2))&&decide (s≤1))&&((7:Int)==0))):=hide rfl
  cases a1:decide (s≤1)
  all_goals
   go_wp2_with fail
   go_ret
   exact ⟨rB (by rw [G.o,KND.o]<;>first|rfl|(simp only [a1,hZ];done)|(simp only [a1,hZ];rfl)|simp [a1,hZ]),by first|exact K4.o|exact K3.o|exact K2.o⟩
 ·have KND:Hid (Pl.ay ⟨19,1,r,7,k,e,s⟩=(((1:Int)==2)&&((((s==0)&&(r==0))&&Pl.jA (7:Int) e)||((s==1)&&Pl.iF (7:Int) k e)))):=hide rfl
  go_wp2_with (first|(go_at_call 140;refine (lJ 7 k e _).mono ?_;rintro e9 w3 ⟨rfl,k3⟩;rw [a3];have B3:=hide (B2.o.af k3);have K3:=hide (K2.o.trans k3);have d0:=B3.o.all;clear k3)|(go_at_call 141;have z9:=B3;refine (fB 7 k e _).mono ?_;rintro e9 w4 ⟨rfl,k4⟩;rw [hZ];have B4:=hide (B3.o.af k4);have K4:=hide (K3.o.trans k4);have f0:=B4.o.all;clear k4)|(go_at_call 141;refine (fB 7 k e _).mono ?_;rintro e9 w4 ⟨rfl,k4⟩;rw [hZ];have B4:=hide (B2.o.af k4);have K4:=hide (K2.o.trans k4);have f0:=B4.o.all;clear k4))
  go_ret
  exact ⟨rB (by rw [G.o,KND.o]<;>first|rfl|(simp only [hZ];done)|(simp only [hZ];rfl)|simp [hZ]),by first|exact K4.o|exact K3.o|exact K2.o⟩
 ·obtain ⟨q1,q2,q3,q4,q5,q6,q7,q8,q9,q10,q11,q12,q13,q14,q15,q16,q17,q18,q19⟩:=hno
  have KND:Hid (Pl.ay ⟨op,1,r,7,k,e,s⟩=false):=hide (by simp [Pl.ay,q1,q2,q3,q4,q5,q6,q7,q8,q9,q10,q11,q12,q13,q14,q15,q16,q17,q18,q19])
  go_wp2_with fail
  go_ret
  exact ⟨rB (by rw [G.o,KND.o]),K2.o⟩
end Go.Proofs.YtkkmnnhaailkcaaGreatDoor
