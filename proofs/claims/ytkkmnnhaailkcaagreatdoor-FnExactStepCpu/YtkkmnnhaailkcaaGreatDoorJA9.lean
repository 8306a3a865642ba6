/- Part 9 of what the last text leans on. -/
import Derived.Test.YtkkmnnhaailkcaaGreatDoorJA7
import Derived.Deep.DeepCutAuto
set_option maxRecDepth 100000
set_option maxHeartbeats 16000000
namespace Go.Proofs.YtkkmnnhaailkcaaGreatDoor
open Go.RowKit Go.Proofs.Tryz
set_option linter.unusedVariables false
set_option linter.unusedSimpArgs false
theorem FU (w:World) (op r m k e s:Int) (h2:Pl.within r 0 3=true) (h3:Pl.iT m k e=true) (h4:Pl.within s 0 7=true) (h6:(m==7)=false) :
  Calls prog 102 #[.agg (inA op 2 r m k e s)] w fun r' w'=>r'=.returned (.bool (Pl.dF ⟨op,2,r,m,k,e,s⟩))∧Kept 0 0 w w':=by
 have K0:=hide (kept_alloc w (.cells (inA op 2 r m k e s) 109))
 have B0:=hide (Blk.new w (inA op 2 r m k e s) 109)
 have G:Hid (Pl.dF ⟨op,2,r,m,k,e,s⟩=Pl.ax ⟨op,2,r,m,k,e,s⟩):=hide (by simp only [Pl.dF,Pl.inBase,Pl.lM,h2,h3,h4,h6];rfl)
 have hN:Pl.jv m e=false:=by simp only [Pl.jv,h6];rfl
 go_enter func102,ntmps102
 go_upto_region 5 with (first|(go_at_call 40;have z9:=B2;refine (dW _ _ _ _).mono ?_;rintro e9 w' ⟨rfl,hw⟩;have hw2:=hw.symm;clear hw;subst hw2;rw [show (decide (0≤s)&&decide (s≤7))=Pl.within s 0 7 from rfl,h4])|(go_at_call 136;refine (uB _).mono ?_;rintro e9 w' ⟨rfl,hw⟩;have hw2:=hw.symm;clear hw;subst hw2)|(go_at_call 40;refine (dW _ _ _ _).mono ?_;rintro e9 w' ⟨rfl,hw⟩;have hw2:=hw.symm;clear hw;subst hw2;rw [show (decide (0≤r)&&decide (r≤3))=Pl.within r 0 3 from rfl,h2])|(go_at_call 137;refine (dZ _ m k e).mono ?_;rintro e9 w2 ⟨rfl,k2⟩;rw [h3];have B2:=hide (B0.o.af k2);have K2:=hide (K0.o.trans k2);have c0:=B2.o.cell (i:=0) rfl;have c1:=B2.o.cell (i:=1) rfl;have c2:=B2.o.cell (i:=2) rfl;have c3:=B2.o.cell (i:=3) rfl;have c4:=B2.o.cell (i:=4) rfl;have c5:=B2.o.cell (i:=5) rfl;have c6:=B2.o.cell (i:=6) rfl;clear k2))
 rcases xJ op with rfl|rfl|rfl|rfl|rfl|rfl|rfl|rfl|rfl|rfl|rfl|rfl|rfl|rfl|rfl|rfl|rfl|rfl|rfl|hno
 ·have KND:Hid (Pl.ax ⟨1,2,r,m,k,e,s⟩=((s==0)&&(((2:Int)==2) || !(m==1)))):=hide rfl
  cases a1:(s==0)
  all_goals
   go_wp2_with fail
   go_ret
   exact ⟨rB (by rw [G.o,KND.o]<;>first|rfl|(simp only [a1,hN,h6];done)|(simp only [a1,hN,h6];rfl)|simp [a1,hN,h6]),by first|exact K4.o|exact K3.o|exact K2.o⟩
 ·have KND:Hid (Pl.ax ⟨2,2,r,m,k,e,s⟩=((s==0)&&((m==0)||Pl.kD m))):=hide rfl
  cases a1:(s==0)<;>cases b1:(m==0)
  all_goals
   go_wp2_with (first|(go_at_call 138;refine (lD _ _).mono ?_;rintro e9 w' ⟨rfl,hw⟩;have hw2:=hw.symm;clear hw;subst hw2))
   go_ret
   exact ⟨rB (by rw [G.o,KND.o]<;>first|rfl|(simp only [a1,b1,hN,h6];done)|(simp only [a1,b1,hN,h6];rfl)|simp [a1,b1,hN,h6]),by first|exact K4.o|exact K3.o|exact K2.o⟩
 ·have KND:Hid (Pl.ax ⟨3,2,r,m,k,e,s⟩=((s==0)&&(((2:Int)==2) || !(m==1)))):=hide rfl
  cases a1:(s==0)
  all_goals
   go_wp2_with fail
   go_ret
   exact ⟨rB (by rw [G.o,KND.o]<;>first|rfl|(simp only [a1,hN,h6];done)|(simp only [a1,hN,h6];rfl)|simp [a1,hN,h6]),by first|exact K4.o|exact K3.o|exact K2.o⟩
 ·have KND:Hid (Pl.ax ⟨4,2,r,m,k,e,s⟩=((s==0)&&(((2:Int)==2) || !(m==1)))):=hide rfl
  cases a1:(s==0)
  all_goals
   go_wp2_with fail
   go_ret
   exact ⟨rB (by rw [G.o,KND.o]<;>first|rfl|(simp only [a1,hN,h6];done)|(simp only [a1,hN,h6];rfl)|simp [a1,hN,h6]),by first|exact K4.o|exact K3.o|exact K2.o⟩
 ·have KND:Hid (Pl.ax ⟨5,2,r,m,k,e,s⟩=((s==0)&&(((2:Int)==2) || !(m==1)))):=hide rfl
  cases a1:(s==0)
  all_goals
   go_wp2_with fail
   go_ret
   exact ⟨rB (by rw [G.o,KND.o]<;>first|rfl|(simp only [a1,hN,h6];done)|(simp only [a1,hN,h6];rfl)|simp [a1,hN,h6]),by first|exact K4.o|exact K3.o|exact K2.o⟩
 ·have KND:Hid (Pl.ax ⟨6,2,r,m,k,e,s⟩=((s==0)&&(((2:Int)==2) || !(m==1)))):=hide rfl
  cases a1:(s==0)
  all_goals
   go_wp2_with fail
   go_ret
   exact ⟨rB (by rw [G.o,KND.o]<;>first|rfl|(simp only [a1,hN,h6];done)|(simp only [a1,hN,h6];rfl)|simp [a1,hN,h6]),by first|exact K4.o|exact K3.o|exact K2.o⟩
 ·have KND:Hid (Pl.ax ⟨7,2,r,m,k,e,s⟩=((s==0)&&(((2:Int)==2) || !(m==1)))):=hide rfl
  cases a1:(s==0)
  all_goals
   go_wp2_with fail
   go_ret
   exact ⟨rB (by rw [G.o,KND.o]<;>first|rfl|(simp only [a1,hN,h6];done)|(simp only [a1,hN,h6];rfl)|simp [a1,hN,h6]),by first|exact K4.o|exact K3.o|exact K2.o⟩
 ·have KND:Hid (Pl.ax ⟨8,2,r,m,k,e,s⟩=((s==0)&&(((2:Int)==2) || !(m==1)))):=hide rfl
  cases a1:(s==0)
  all_goals
   go_wp2_with fail
   go_ret
   exact ⟨rB (by rw [G.o,KND.o]<;>first|rfl|(simp only [a1,hN,h6];done)|(simp only [a1,hN,h6];rfl)|simp [a1,hN,h6]),by first|exact K4.o|exact K3.o|exact K2.o⟩
 ·have KND:Hid (Pl.ax ⟨9,2,r,m,k,e,s⟩=(((2:Int)==2)&&(s==0))):=hide rfl
  go_wp2_with fail
  go_ret
  exact ⟨rB (by rw [G.o,KND.o]<;>first|rfl|(simp only [hN,h6];done)|(simp only [hN,h6];rfl)|simp [hN,h6]),by first|exact K4.o|exact K3.o|exact K2.o⟩
 ·have KND:Hid (Pl.ax ⟨10,2,r,m,k,e,s⟩=((((2:Int)==2)&&(s==0))&&Pl.fH m)):=hide rfl
  cases a1:(s==0)
  all_goals
   go_wp2_with (first|(go_at_call 139;refine (jk _ _).mono ?_;rintro e9 w' ⟨rfl,hw⟩;have hw2:=hw.symm;clear hw;subst hw2))
   go_ret
   exact ⟨rB (by rw [G.o,KND.o]<;>first|rfl|(simp only [a1,hN,h6];done)|(simp only [a1,hN,h6];rfl)|simp [a1,hN,h6]),by first|exact K4.o|exact K3.o|exact K2.o⟩
 ·have KND:Hid (Pl.ax ⟨11,2,r,m,k,e,s⟩=(((r==0)&&decide (s≤3))&&((m==0)||Pl.kD m))):=hide rfl
  cases a1:(r==0)<;>cases a2:decide (s≤3)<;>cases b1:(m==0)
  all_goals
   go_wp2_with (first|(go_at_call 138;refine (lD _ _).mono ?_;rintro e9 w' ⟨rfl,hw⟩;have hw2:=hw.symm;clear hw;subst hw2))
   go_ret
   exact ⟨rB (by rw [G.o,KND.o]<;>first|rfl|(simp only [a1,a2,b1,hN,h6];done)|(simp only [a1,a2,b1,hN,h6];rfl)|simp [a1,a2,b1,hN,h6]),by first|exact K4.o|exact K3.o|exact K2.o⟩
 ·have KND:Hid (Pl.ax ⟨12,2,r,m,k,e,s⟩=((m==0))):=hide rfl
  go_wp2_with fail
  go_ret
  exact ⟨rB (by rw [G.o,KND.o]<;>first|rfl|(simp only [hN,h6];done)|(simp only [hN,h6];rfl)|simp [hN,h6]),by first|exact K4.o|exact K3.o|exact K2.o⟩
 ·have KND:Hid (Pl.ax ⟨13,2,r,m,k,e,s⟩=((((2:Int)==2)&&decide (r≤1))&&(m==7))):=hide rfl
  cases a1:decide (r≤1)
  all_goals
   go_wp2_with fail
   go_ret
   exact ⟨rB (by rw [G.o,KND.o]<;>first|rfl|(simp only [a1,hN,h6];done)|(simp only [a1,hN,h6];rfl)|simp [a1,hN,h6]),by first|exact K4.o|exact K3.o|exact K2.o⟩
 ·have KND:Hid (Pl.ax ⟨14,2,r,m,k,e,s⟩=(((((2:Int)==2)&&(r==0))&&decide (s≤1))&&Pl.fH m)):=hide rfl
  cases a1:(r==0)<;>cases a2:decide (s≤1)
  all_goals
   go_wp2_with (first|(go_at_call 139;refine (jk _ _).mono ?_;rintro e9 w' ⟨rfl,hw⟩;have hw2:=hw.symm;clear hw;subst hw2))
   go_ret
   exact ⟨rB (by rw [G.o,KND.o]<;>first|rfl|(simp only [a1,a2,hN,h6];done)|(simp only [a1,a2,hN,h6];rfl)|simp [a1,a2,hN,h6]),by first|exact K4.o|exact K3.o|exact K2.o⟩
 ·have KND:Hid (Pl.ax ⟨15,2,r,m,k,e,s⟩=(bif s==3 then (((2:Int)==2)&&(r==0))&&Pl.jv m e else ((((2:Int)==2)&&decide (s≤6))&&Pl.iw m k e)&&(decide (3<s)||(r==0)))):=hide rfl
  cases a0:(s==3)<;>cases a1:(r==0)<;>cases a2:decide (s≤6)<;>cases a3:Pl.iw m k e<;>cases a4:decide (3<s)
  all_goals
   go_wp2_with (first|(go_at_call 140;refine (lC m k e _).mono ?_;rintro e9 w3 ⟨rfl,k3⟩;rw [hN];have B3:=hide (B2.o.af k3);have K3:=hide (K2.o.trans k3);have d0:=B3.o.cell (i:=0) rfl;have d1:=B3.o.cell (i:=1) rfl;have d2:=B3.o.cell (i:=2) rfl;have d3:=B3.o.cell (i:=3) rfl;have d4:=B3.o.cell (i:=4) rfl;have d5:=B3.o.cell (i:=5) rfl;have d6:=B3.o.cell (i:=6) rfl;clear k3)|(go_at_call 141;have z9:=B3;refine (eU m k e _).mono ?_;rintro e9 w4 ⟨rfl,k4⟩;rw [a3];have B4:=hide (B3.o.af k4);have K4:=hide (K3.o.trans k4);have f0:=B4.o.cell (i:=0) rfl;have f1:=B4.o.cell (i:=1) rfl;have f2:=B4.o.cell (i:=2) rfl;have f3:=B4.o.cell (i:=3) rfl;have f4:=B4.o.cell (i:=4) rfl;have f5:=B4.o.cell (i:=5) rfl;have f6:=B4.o.cell (i:=6) rfl;clear k4)|(go_at_call 141;refine (eU m k e _).mono ?_;rintro e9 w4 ⟨rfl,k4⟩;rw [a3];have B4:=hide (B2.o.af k4);have K4:=hide (K2.o.trans k4);have f0:=B4.o.cell (i:=0) rfl;have f1:=B4.o.cell (i:=1) rfl;have f2:=B4.o.cell (i:=2) rfl;have f3:=B4.o.cell (i:=3) rfl;have f4:=B4.o.cell (i:=4) rfl;have f5:=B4.o.cell (i:=5) rfl;have f6:=B4.o.cell (i:=6) rfl;clear k4))
   go_ret
   exact ⟨rB (by rw [G.o,KND.o]<;>first|rfl|(simp only [a0,a1,a2,a3,a4,hN,h6];done)|(simp only [a0,a1,a2,a3,a4,hN,h6];rfl)|simp [a0,a1,a2,a3,a4,hN,h6]),by first|exact K4.o|exact K3.o|exact K2.o⟩
 ·have KND:Hid (Pl.ax ⟨16,2,r,m,k,e,s⟩=((((2:Int)==2)&&(s==0)) && !(m==1))):=hide rfl
  cases a1:(s==0)
  all_goals
   go_wp2_with fail
   go_ret
   exact ⟨rB (by rw [G.o,KND.o]<;>first|rfl|(simp only [a1,hN,h6];done)|(simp only [a1,hN,h6];rfl)|simp [a1,hN,h6]),by first|exact K4.o|exact K3.o|exact K2.o⟩
 ·have KND:Hid (Pl.ax ⟨17,2,r,m,k,e,s⟩=((((2:Int)==2)&&(s==0)) && !(m==1))):=hide rfl
  cases a1:(s==0)
  all_goals
   go_wp2_with fail
   go_ret
   exact ⟨rB (by rw [G.o,KND.o]<;>first|rfl|(simp only [a1,hN,h6];done)|(simp only [a1,hN,h6];rfl)|simp [a1,hN,h6]),by first|exact K4.o|exact K3.o|exact K2.o⟩
 ·have KND:Hid (Pl.ax ⟨18,2,r,m,k,e,s⟩=(((!((2:Int)==2))&&decide (s≤1))&&(m==0))):=hide rfl
  go_wp2_with fail
  go_ret
  exact ⟨rB (by rw [G.o,KND.o]<;>first|rfl|(simp only [hN,h6];done)|(simp only [hN,h6];rfl)|simp [hN,h6]),by first|exact K4.o|exact K3.o|exact K2.o⟩
 ·have KND:Hid (Pl.ax ⟨19,2,r,m,k,e,s⟩=(((2:Int)==2)&&((((s==0)&&(r==0))&&Pl.jv m e)||((s==1)&&Pl.iw m k e)))):=hide rfl
  cases a1:(s==0)<;>cases a2:(r==0)<;>cases a4:(s==1)
  all_goals
   go_wp2_with (first|(go_at_call 140;refine (lC m k e _).mono ?_;rintro e9 w3 ⟨rfl,k3⟩;rw [hN];have B3:=hide (B2.o.af k3);have K3:=hide (K2.o.trans k3);have d0:=B3.o.cell (i:=0) rfl;have d1:=B3.o.cell (i:=1) rfl;have d2:=B3.o.cell (i:=2) rfl;have d3:=B3.o.cell (i:=3) rfl;have d4:=B3.o.cell (i:=4) rfl;have d5:=B3.o.cell (i:=5) rfl;have d6:=B3.o.cell (i:=6) rfl;clear k3)|(go_at_call 141;have z9:=B3;refine (eU m k e _).mono ?_;rintro e9 w4 ⟨rfl,k4⟩;have B4:=hide (B3.o.af k4);have K4:=hide (K3.o.trans k4);have f0:=B4.o.cell (i:=0) rfl;have f1:=B4.o.cell (i:=1) rfl;have f2:=B4.o.cell (i:=2) rfl;have f3:=B4.o.cell (i:=3) rfl;have f4:=B4.o.cell (i:=4) rfl;have f5:=B4.o.cell (i:=5) rfl;have f6:=B4.o.cell (i:=6) rfl;clear k4)|(go_at_call 141;refine (eU m k e _).mono ?_;rintro e9 w4 ⟨rfl,k4⟩;have B4:=hide (B2.o.af k4);have K4:=hide (K2.o.trans k4);have f0:=B4.o.cell (i:=0) rfl;have f1:=B4.o.cell (i:=1) rfl;have f2:=B4.o.cell (i:=2) rfl;have f3:=B4.o.cell (i:=3) rfl;have f4:=B4.o.cell (i:=4) rfl;have f5:=B4.o.cell (i:=5) rfl;have f6:=B4.o.cell (i:=6) rfl;clear k4))
   go_ret
   exact ⟨rB (by rw [G.o,KND.o]<;>first|rfl|(simp only [a1,a2,a4,hN,h6];done)|(simp only [a1,a2,a4,hN,h6];rfl)|simp [a1,a2,a4,hN,h6]),by first|exact K4.o|exact K3.o|exact K2.o⟩
 ·obtain ⟨q1,q2,q3,q4,q5,q6,q7,q8,q9,q10,q11,q12,q13,q14,q15,q16,q17,q18,q19⟩:=hno
  have KND:Hid (Pl.ax ⟨op,2,r,m,k,e,s⟩=false):=hide (by simp [Pl.ax,q1,q2,q3,q4,q5,q6,q7,q8,q9,q10,q11,q12,q13,q14,q15,q16,q17,q18,q19])
  go_wp2_with fail
  go_ret
  exact ⟨rB (by rw [G.o,KND.o]),K2.o⟩
end Go.Proofs.YtkkmnnhaailkcaaGreatDoor
