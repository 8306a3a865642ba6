/- Part 15 of what the last text leans on. -/
import Derived.Test.YtgikibaajanjiaaGreatDoorJA14
import Derived.BigQuiet
import Derived.Deep.QuietTactic
import Derived.Test.YtgikibaajanjiaaGreatDoorJA13
import Derived.Carry
import Derived.MapKept
set_option maxRecDepth 100000
set_option maxHeartbeats 16000000
namespace Go.Proofs.YtgikibaajanjiaaGreatDoor
open Pl
open Go.RowKit Go.Proofs.Tryz
set_option linter.unusedVariables false
theorem Pe (w:World) (z r m k e s:Int) (h0:0<=s):Calls prog 119 #[.agg (inA 1 z r m k e s)] w fun r' w'=>r'=.returned (.bool (ax ⟨1,z,r,m,k,e,s⟩))∧Kept 0 0 w w':=by
 have K0:=Zr (kept_alloc w (.cells (inA 1 z r m k e s) 48));rw [show ax ⟨1,z,r,m,k,e,s⟩=((s==0)&&((z==2) || !(m==1))) from rfl];cases a0:(s==0)
 ·go_enter func119,ntmps119;go_wp2_with fail;go_quiet (fail);go_wp2_with fail;go_ret;exact ⟨rB (by simp),au K0.o _⟩
 ·cases a1:(z==2)
  ·go_enter func119,ntmps119;go_wp2_with fail;go_quiet (fail);go_wp2_with fail;go_ret;exact ⟨rB (by simp [bne]),au K0.o _⟩
  ·go_enter func119,ntmps119;go_wp2_with fail;go_quiet (fail);go_wp2_with fail;go_ret;exact ⟨rB (by simp),au K0.o _⟩
theorem O9 (w:World) (z r m k e s:Int) (h0:0<=s):Calls prog 119 #[.agg (inA 2 z r m k e s)] w fun r' w'=>r'=.returned (.bool (ax ⟨2,z,r,m,k,e,s⟩))∧Kept 0 0 w w':=by
 have K0:=Zr (kept_alloc w (.cells (inA 2 z r m k e s) 48));rw [show ax ⟨2,z,r,m,k,e,s⟩=((s==0)&&((m==0)||jU m)) from rfl];cases a0:(s==0)
 ·go_enter func119,ntmps119;go_wp2_with fail;go_quiet (fail);go_wp2_with fail;go_ret;exact ⟨rB (by simp),au K0.o _⟩
 ·go_enter func119,ntmps119;go_wp2_with fail;go_quiet (fail);go_wp2_with (go_at_call 171;refine st (DJ _ _) ?_);go_ret;exact ⟨rB (by simp),au K0.o _⟩
theorem O8 (w:World) (z r m k e s:Int) (h0:0<=s):Calls prog 119 #[.agg (inA 3 z r m k e s)] w fun r' w'=>r'=.returned (.bool (ax ⟨3,z,r,m,k,e,s⟩))∧Kept 0 0 w w':=by
 have K0:=Zr (kept_alloc w (.cells (inA 3 z r m k e s) 48));rw [show ax ⟨3,z,r,m,k,e,s⟩=((s==0)&&((z==2) || !(m==1))) from rfl];cases a0:(s==0)
 ·go_enter func119,ntmps119;go_wp2_with fail;go_quiet (fail);go_wp2_with fail;go_ret;exact ⟨rB (by simp),au K0.o _⟩
 ·cases a1:(z==2)
  ·go_enter func119,ntmps119;go_wp2_with fail;go_quiet (fail);go_wp2_with fail;go_ret;exact ⟨rB (by simp [bne]),au K0.o _⟩
  ·go_enter func119,ntmps119;go_wp2_with fail;go_quiet (fail);go_wp2_with fail;go_ret;exact ⟨rB (by simp),au K0.o _⟩
theorem O6 (w:World) (z r m k e s:Int) (h0:0<=s):Calls prog 119 #[.agg (inA 4 z r m k e s)] w fun r' w'=>r'=.returned (.bool (ax ⟨4,z,r,m,k,e,s⟩))∧Kept 0 0 w w':=by
 have K0:=Zr (kept_alloc w (.cells (inA 4 z r m k e s) 48));rw [show ax ⟨4,z,r,m,k,e,s⟩=((s==0)&&((z==2) || !(m==1))) from rfl];cases a0:(s==0)
 ·go_enter func119,ntmps119;go_wp2_with fail;go_quiet (fail);go_wp2_with fail;go_ret;exact ⟨rB (by simp),au K0.o _⟩
 ·cases a1:(z==2)
  ·go_enter func119,ntmps119;go_wp2_with fail;go_quiet (fail);go_wp2_with fail;go_ret;exact ⟨rB (by simp [bne]),au K0.o _⟩
  ·go_enter func119,ntmps119;go_wp2_with fail;go_quiet (fail);go_wp2_with fail;go_ret;exact ⟨rB (by simp),au K0.o _⟩
theorem OZ (w:World) (z r m k e s:Int) (h0:0<=s):Calls prog 119 #[.agg (inA 5 z r m k e s)] w fun r' w'=>r'=.returned (.bool (ax ⟨5,z,r,m,k,e,s⟩))∧Kept 0 0 w w':=by
 have K0:=Zr (kept_alloc w (.cells (inA 5 z r m k e s) 48));rw [show ax ⟨5,z,r,m,k,e,s⟩=((s==0)&&((z==2) || !(m==1))) from rfl];cases a0:(s==0)
 ·go_enter func119,ntmps119;go_wp2_with fail;go_quiet (fail);go_wp2_with fail;go_ret;exact ⟨rB (by simp),au K0.o _⟩
 ·cases a1:(z==2)
  ·go_enter func119,ntmps119;go_wp2_with fail;go_quiet (fail);go_wp2_with fail;go_ret;exact ⟨rB (by simp [bne]),au K0.o _⟩
  ·go_enter func119,ntmps119;go_wp2_with fail;go_quiet (fail);go_wp2_with fail;go_ret;exact ⟨rB (by simp),au K0.o _⟩
theorem OY (w:World) (z r m k e s:Int) (h0:0<=s):Calls prog 119 #[.agg (inA 6 z r m k e s)] w fun r' w'=>r'=.returned (.bool (ax ⟨6,z,r,m,k,e,s⟩))∧Kept 0 0 w w':=by
 have K0:=Zr (kept_alloc w (.cells (inA 6 z r m k e s) 48));rw [show ax ⟨6,z,r,m,k,e,s⟩=((s==0)&&((z==2) || !(m==1))) from rfl];cases a0:(s==0)
 ·go_enter func119,ntmps119;go_wp2_with fail;go_quiet (fail);go_wp2_with fail;go_ret;exact ⟨rB (by simp),au K0.o _⟩
 ·cases a1:(z==2)
  ·go_enter func119,ntmps119;go_wp2_with fail;go_quiet (fail);go_wp2_with fail;go_ret;exact ⟨rB (by simp [bne]),au K0.o _⟩
  ·go_enter func119,ntmps119;go_wp2_with fail;go_quiet (fail);go_wp2_with fail;go_ret;exact ⟨rB (by simp),au K0.o _⟩
theorem OU (w:World) (z r m k e s:Int) (h0:0<=s):Calls prog 119 #[.agg (inA 7 z r m k e s)] w fun r' w'=>r'=.returned (.bool (ax ⟨7,z,r,m,k,e,s⟩))∧Kept 0 0 w w':=by
 have K0:=Zr (kept_alloc w (.cells (inA 7 z r m k e s) 48));rw [show ax ⟨7,z,r,m,k,e,s⟩=((s==0)&&((z==2) || !(m==1))) from rfl];cases a0:(s==0)
 ·go_enter func119,ntmps119;go_wp2_with fail;go_quiet (fail);go_wp2_with fail;go_ret;exact ⟨rB (by simp),au K0.o _⟩
 ·cases a1:(z==2)
  ·go_enter func119,ntmps119;go_wp2_with fail;go_quiet (fail);go_wp2_with fail;go_ret;exact ⟨rB (by simp [bne]),au K0.o _⟩
  ·go_enter func119,ntmps119;go_wp2_with fail;go_quiet (fail);go_wp2_with fail;go_ret;exact ⟨rB (by simp),au K0.o _⟩
theorem OT (w:World) (z r m k e s:Int) (h0:0<=s):Calls prog 119 #[.agg (inA 8 z r m k e s)] w fun r' w'=>r'=.returned (.bool (ax ⟨8,z,r,m,k,e,s⟩))∧Kept 0 0 w w':=by
 have K0:=Zr (kept_alloc w (.cells (inA 8 z r m k e s) 48));rw [show ax ⟨8,z,r,m,k,e,s⟩=((s==0)&&((z==2) || !(m==1))) from rfl];cases a0:(s==0)
 ·go_enter func119,ntmps119;go_wp2_with fail;go_quiet (fail);go_wp2_with fail;go_ret;exact ⟨rB (by simp),au K0.o _⟩
 ·cases a1:(z==2)
  ·go_enter func119,ntmps119;go_wp2_with fail;go_quiet (fail);go_wp2_with fail;go_ret;exact ⟨rB (by simp [bne]),au K0.o _⟩
  ·go_enter func119,ntmps119;go_wp2_with fail;go_quiet (fail);go_wp2_with fail;go_ret;exact ⟨rB (by simp),au K0.o _⟩
theorem OM (w:World) (z r m k e s:Int) (h0:0<=s):Calls prog 119 #[.agg (inA 9 z r m k e s)] w fun r' w'=>r'=.returned (.bool (ax ⟨9,z,r,m,k,e,s⟩))∧Kept 0 0 w w':=by
 have K0:=Zr (kept_alloc w (.cells (inA 9 z r m k e s) 48));rw [show ax ⟨9,z,r,m,k,e,s⟩=((z==2)&&(s==0)) from rfl];cases a0:(z==2)
 ·go_enter func119,ntmps119;go_wp2_with fail;go_quiet (fail);go_wp2_with fail;go_ret;exact ⟨rB (by simp),au K0.o _⟩
 ·go_enter func119,ntmps119;go_wp2_with fail;go_quiet (fail);go_wp2_with fail;go_ret;exact ⟨rB (by simp),au K0.o _⟩
theorem JV (w:World) (z r m k e s:Int) (h0:0<=s):Calls prog 119 #[.agg (inA 10 z r m k e s)] w fun r' w'=>r'=.returned (.bool (ax ⟨10,z,r,m,k,e,s⟩))∧Kept 0 0 w w':=by
 have K0:=Zr (kept_alloc w (.cells (inA 10 z r m k e s) 48));rw [show ax ⟨10,z,r,m,k,e,s⟩=(((z==2)&&(s==0))&&eX m) from rfl];cases a0:(z==2)
 ·go_enter func119,ntmps119;go_wp2_with fail;go_quiet (fail);go_wp2_with fail;go_ret;exact ⟨rB (by simp),au K0.o _⟩
 ·cases a1:(s==0)
  ·go_enter func119,ntmps119;go_wp2_with fail;go_quiet (fail);go_wp2_with fail;go_ret;exact ⟨rB (by simp),au K0.o _⟩
  ·go_enter func119,ntmps119;go_wp2_with fail;go_quiet (fail);go_wp2_with (go_at_call 172;refine st (Dk _ _) ?_);go_ret;exact ⟨rB (by simp),au K0.o _⟩
theorem JU (w:World) (z r m k e s:Int) (h0:0<=s):Calls prog 119 #[.agg (inA 11 z r m k e s)] w fun r' w'=>r'=.returned (.bool (ax ⟨11,z,r,m,k,e,s⟩))∧Kept 0 0 w w':=by
 have K0:=Zr (kept_alloc w (.cells (inA 11 z r m k e s) 48));rw [show ax ⟨11,z,r,m,k,e,s⟩=(((r==0)&&decide (s<=3))&&((m==0)||jU m)) from rfl];cases a0:(r==0)
 ·go_enter func119,ntmps119;go_wp2_with fail;go_quiet (fail);go_wp2_with fail;go_ret;exact ⟨rB (by simp),au K0.o _⟩
 ·cases a1:decide (s<=3)
  ·go_enter func119,ntmps119;go_wp2_with fail;go_quiet (fail);go_wp2_with fail;go_ret;exact ⟨rB (by simp),au K0.o _⟩
  ·go_enter func119,ntmps119;go_wp2_with fail;go_quiet (fail);go_wp2_with (go_at_call 171;refine st (DJ _ _) ?_);go_ret;exact ⟨rB (by simp),au K0.o _⟩
theorem JS (w:World) (z r m k e s:Int) (h0:0<=s):Calls prog 119 #[.agg (inA 12 z r m k e s)] w fun r' w'=>r'=.returned (.bool (ax ⟨12,z,r,m,k,e,s⟩))∧Kept 0 0 w w':=by
 have K0:=Zr (kept_alloc w (.cells (inA 12 z r m k e s) 48));rw [show ax ⟨12,z,r,m,k,e,s⟩=((m==0)) from rfl];go_enter func119,ntmps119;go_wp2_with fail;go_quiet (fail);go_wp2_with fail;go_ret;exact ⟨rB (by simp),au K0.o _⟩
theorem JR (w:World) (z r m k e s:Int) (h0:0<=s):Calls prog 119 #[.agg (inA 13 z r m k e s)] w fun r' w'=>r'=.returned (.bool (ax ⟨13,z,r,m,k,e,s⟩))∧Kept 0 0 w w':=by
 have K0:=Zr (kept_alloc w (.cells (inA 13 z r m k e s) 48));rw [show ax ⟨13,z,r,m,k,e,s⟩=(((z==2)&&decide (r<=1))&&(m==7)) from rfl];cases a0:(z==2)
 ·go_enter func119,ntmps119;go_wp2_with fail;go_quiet (fail);go_wp2_with fail;go_ret;exact ⟨rB (by simp),au K0.o _⟩
 ·cases a1:decide (r<=1)
  ·go_enter func119,ntmps119;go_wp2_with fail;go_quiet (fail);go_wp2_with fail;go_ret;exact ⟨rB (by simp),au K0.o _⟩
  ·go_enter func119,ntmps119;go_wp2_with fail;go_quiet (fail);go_wp2_with fail;go_ret;exact ⟨rB (by simp),au K0.o _⟩
theorem JQ (w:World) (z r m k e s:Int) (h0:0<=s):Calls prog 119 #[.agg (inA 14 z r m k e s)] w fun r' w'=>r'=.returned (.bool (ax ⟨14,z,r,m,k,e,s⟩))∧Kept 0 0 w w':=by
 have K0:=Zr (kept_alloc w (.cells (inA 14 z r m k e s) 48));rw [show ax ⟨14,z,r,m,k,e,s⟩=((((z==2)&&(r==0))&&decide (s<=1))&&eX m) from rfl];cases a0:(z==2)
 ·go_enter func119,ntmps119;go_wp2_with fail;go_quiet (fail);go_wp2_with fail;go_ret;exact ⟨rB (by simp),au K0.o _⟩
 ·cases a1:(r==0)
  ·go_enter func119,ntmps119;go_wp2_with fail;go_quiet (fail);go_wp2_with fail;go_ret;exact ⟨rB (by simp),au K0.o _⟩
  ·cases a2:decide (s<=1)
   ·go_enter func119,ntmps119;go_wp2_with fail;go_quiet (fail);go_wp2_with fail;go_ret;exact ⟨rB (by simp),au K0.o _⟩
   ·go_enter func119,ntmps119;go_wp2_with fail;go_quiet (fail);go_wp2_with (go_at_call 172;refine st (Dk _ _) ?_);go_ret;exact ⟨rB (by simp),au K0.o _⟩
theorem JP (w:World) (z r m k e s:Int) (h0:0<=s):Calls prog 119 #[.agg (inA 15 z r m k e s)] w fun r' w'=>r'=.returned (.bool (ax ⟨15,z,r,m,k,e,s⟩))∧Kept 0 0 w w':=by
 have K0:=Zr (kept_alloc w (.cells (inA 15 z r m k e s) 48));rw [show ax ⟨15,z,r,m,k,e,s⟩=(bif s==3 then ((z==2)&&(r==0))&&jd m e else (((z==2)&&decide (s<=6))&&gW m k e)&&(decide (3<s)||(r==0))) from rfl];cases a0:(z==2)
 ·go_enter func119,ntmps119;go_wp2_with fail;go_quiet (fail);go_wp2_with fail;go_ret;exact ⟨rB (by cases hs:(s==3)<;>simp),au K0.o _⟩
 ·go_enter func119,ntmps119;go_wp2_with fail;go_quiet (fail);go_wp2_with (go_at_call 173;refine (JW _ 15 z r m k e s h0).mono ?_;rintro e9 w2 ⟨rfl,k2⟩);go_ret;exact ⟨rB (by cases hs:(s==3)<;>simp),(au K0.o _).trans k2⟩
theorem JO (w:World) (z r m k e s:Int) (h0:0<=s):Calls prog 119 #[.agg (inA 16 z r m k e s)] w fun r' w'=>r'=.returned (.bool (ax ⟨16,z,r,m,k,e,s⟩))∧Kept 0 0 w w':=by
 have K0:=Zr (kept_alloc w (.cells (inA 16 z r m k e s) 48));rw [show ax ⟨16,z,r,m,k,e,s⟩=(((z==2)&&(s==0)) && !(m==1)) from rfl];cases a0:(z==2)
 ·go_enter func119,ntmps119;go_wp2_with fail;go_quiet (fail);go_wp2_with fail;go_ret;exact ⟨rB (by simp),au K0.o _⟩
 ·cases a1:(s==0)
  ·go_enter func119,ntmps119;go_wp2_with fail;go_quiet (fail);go_wp2_with fail;go_ret;exact ⟨rB (by simp),au K0.o _⟩
  ·go_enter func119,ntmps119;go_wp2_with fail;go_quiet (fail);go_wp2_with fail;go_ret;exact ⟨rB (by simp [bne]),au K0.o _⟩
theorem JM (w:World) (z r m k e s:Int) (h0:0<=s):Calls prog 119 #[.agg (inA 17 z r m k e s)] w fun r' w'=>r'=.returned (.bool (ax ⟨17,z,r,m,k,e,s⟩))∧Kept 0 0 w w':=by
 have K0:=Zr (kept_alloc w (.cells (inA 17 z r m k e s) 48));rw [show ax ⟨17,z,r,m,k,e,s⟩=(((z==2)&&(s==0)) && !(m==1)) from rfl];cases a0:(z==2)
 ·go_enter func119,ntmps119;go_wp2_with fail;go_quiet (fail);go_wp2_with fail;go_ret;exact ⟨rB (by simp),au K0.o _⟩
 ·cases a1:(s==0)
  ·go_enter func119,ntmps119;go_wp2_with fail;go_quiet (fail);go_wp2_with fail;go_ret;exact ⟨rB (by simp),au K0.o _⟩
  ·go_enter func119,ntmps119;go_wp2_with fail;go_quiet (fail);go_wp2_with fail;go_ret;exact ⟨rB (by simp [bne]),au K0.o _⟩
theorem JL (w:World) (z r m k e s:Int) (h0:0<=s):Calls prog 119 #[.agg (inA 18 z r m k e s)] w fun r' w'=>r'=.returned (.bool (ax ⟨18,z,r,m,k,e,s⟩))∧Kept 0 0 w w':=by
 have K0:=Zr (kept_alloc w (.cells (inA 18 z r m k e s) 48));rw [show ax ⟨18,z,r,m,k,e,s⟩=(((!(z==2))&&decide (s<=1))&&(m==0)) from rfl];cases a0:(z==2)
 ·cases a1:decide (s<=1)
  ·go_enter func119,ntmps119;go_wp2_with fail;go_quiet (fail);go_wp2_with fail;go_ret;exact ⟨rB (by simp),au K0.o _⟩
  ·go_enter func119,ntmps119;go_wp2_with fail;go_quiet (fail);go_wp2_with fail;go_ret;exact ⟨rB (by simp),au K0.o _⟩
 ·go_enter func119,ntmps119;go_wp2_with fail;go_quiet (fail);go_wp2_with fail;go_ret;exact ⟨rB (by simp),au K0.o _⟩
theorem JK (w:World) (z r m k e s:Int) (h0:0<=s):Calls prog 119 #[.agg (inA 19 z r m k e s)] w fun r' w'=>r'=.returned (.bool (ax ⟨19,z,r,m,k,e,s⟩))∧Kept 0 0 w w':=by
 have K0:=Zr (kept_alloc w (.cells (inA 19 z r m k e s) 48));rw [show ax ⟨19,z,r,m,k,e,s⟩=((z==2)&&((((s==0)&&(r==0))&&jd m e)||((s==1)&&gW m k e))) from rfl];cases a0:(z==2)
 ·go_enter func119,ntmps119;go_wp2_with fail;go_quiet (fail);go_wp2_with fail;go_ret;exact ⟨rB (by simp),au K0.o _⟩
 ·go_enter func119,ntmps119;go_wp2_with fail;go_quiet (fail);go_wp2_with (go_at_call 174;refine (Bi _ 19 z r m k e s).mono ?_;rintro e9 w2 ⟨rfl,k2⟩);go_ret;exact ⟨rB (by simp [Bool.and_assoc]),(au K0.o _).trans k2⟩
theorem JJ (w:World) (op z r m k e s:Int) (h:op<1∨19<op):Calls prog 119 #[.agg (inA op z r m k e s)] w fun r' w'=>r'=.returned (.bool (ax ⟨op,z,r,m,k,e,s⟩))∧Kept 0 0 w w':=by
 have K0:=Zr (kept_alloc w (.cells (inA op z r m k e s) 48))
 have G:Hid (ax ⟨op,z,r,m,k,e,s⟩=false):=Zr (by
  unfold ax;simp only;have n1:(op==1)=false:=by simp;omega
  have n2:(op==2)=false:=by simp;omega
  have n3:(op==3)=false:=by simp;omega
  have n4:(op==4)=false:=by simp;omega
  have n5:(op==5)=false:=by simp;omega
  have n6:(op==6)=false:=by simp;omega
  have n7:(op==7)=false:=by simp;omega
  have n8:(op==8)=false:=by simp;omega
  have n9:(op==9)=false:=by simp;omega
  have n10:(op==10)=false:=by simp;omega
  have n11:(op==11)=false:=by simp;omega
  have n12:(op==12)=false:=by simp;omega
  have n13:(op==13)=false:=by simp;omega
  have n14:(op==14)=false:=by simp;omega
  have n15:(op==15)=false:=by simp;omega
  have n16:(op==16)=false:=by simp;omega
  have n17:(op==17)=false:=by simp;omega
  have n18:(op==18)=false:=by simp;omega
  have n19:(op==19)=false:=by simp;omega
  rw [n1,n3,n4,n5,n6,n7,n8,n2,n9,n10,n11,n12,n13,n14,n16,n17,n18,n19,n15]
  rfl)
 go_enter func119,ntmps119;go_wp2_with fail;go_quiet (fail);go_wp2_with fail;go_ret;exact ⟨rB G.o.symm,au K0.o _⟩
theorem TE (w:World) (op z r m k e s:Int) (h0:0<=s):Calls prog 119 #[.agg (inA op z r m k e s)] w fun r' w'=>r'=.returned (.bool (ax ⟨op,z,r,m,k,e,s⟩))∧Kept 0 0 w w':=by
 by_cases h:op<1∨19<op
 ·exact JJ w op z r m k e s h
 ·have hs:op=1∨op=2∨op=3∨op=4∨op=5∨op=6∨op=7∨op=8∨op=9∨op=10∨op=11∨op=12∨op=13∨op=14∨op=15∨op=16∨op=17∨op=18∨op=19:=by omega
  rcases hs with rfl|rfl|rfl|rfl|rfl|rfl|rfl|rfl|rfl|rfl|rfl|rfl|rfl|rfl|rfl|rfl|rfl|rfl|rfl
  ·exact Pe w z r m k e s h0
  ·exact O9 w z r m k e s h0
  ·exact O8 w z r m k e s h0
  ·exact O6 w z r m k e s h0
  ·exact OZ w z r m k e s h0
  ·exact OY w z r m k e s h0
  ·exact OU w z r m k e s h0
  ·exact OT w z r m k e s h0
  ·exact OM w z r m k e s h0
  ·exact JV w z r m k e s h0
  ·exact JU w z r m k e s h0
  ·exact JS w z r m k e s h0
  ·exact JR w z r m k e s h0
  ·exact JQ w z r m k e s h0
  ·exact JP w z r m k e s h0
  ·exact JO w z r m k e s h0
  ·exact JM w z r m k e s h0
  ·exact JL w z r m k e s h0
  ·exact JK w z r m k e s h0
theorem sO (w:World) (op z r m k e s:Int) (wfop:(Lit.int .i64 op).wf=true) (wfz:(Lit.int .i64 z).wf=true) (wfr:(Lit.int .i64 r).wf=true) (wfm:(Lit.int .i64 m).wf=true) (wfk:(Lit.int .i64 k).wf=true) (wfe:(Lit.int .i64 e).wf=true) (wfs:(Lit.int .i64 s).wf=true):Calls prog 63 #[.agg (inA op z r m k e s)] w fun r' w'=>r'=.returned (.bool (bI ⟨op,z,r,m,k,e,s⟩))∧Kept 0 0 w w':=by
 have K0:=Zr (kept_alloc w (.cells (inA op z r m k e s) 48));have B0:=Zr (Blk.new w (inA op z r m k e s) 48);rw [Pl.ok_of_fits];simp only;cases h1:Pl.fits ⟨op,z,r,m,k,e,s⟩
 ·go_enter func63,ntmps63;go_wp2_with (go_at_call 116;refine (pK _ op z r m k e s).mono ?_;rw [h1];rintro e9 w1 ⟨rfl,k1⟩);go_ret;exact ⟨rB (by simp),K0.o.trans k1⟩
 ·have h0:0<=s:=((uZ _).1 h1).2.2.2.2.2.1.1;cases h2:iH m k e
  ·go_enter func63,ntmps63;go_wp2_with (first|(go_at_call 116;refine (pK _ op z r m k e s).mono ?_;rw [h1];rintro e9 w1 ⟨rfl,k1⟩;have B1:=Zr (B0.o.ae k1);have K1:=Zr (K0.o.trans k1);obtain ⟨b0,b1,b2,b3,b4,b5,b6⟩:=B1.o.c7;clear k1)|(go_at_call 117;refine (jV _ m k e wfm wfk wfe).mono ?_;rw [h2];rintro e9 w2 ⟨rfl,k2⟩;have B2:=Zr (B1.o.ae k2);have K2:=Zr (K1.o.trans k2);obtain ⟨c0,c1,c2,c3,c4,c5,c6⟩:=B2.o.c7;clear k2));go_ret;exact ⟨rB (by simp),K2.o⟩
  ·cases h3:JX ⟨op,z,r,m,k,e,s⟩
   ·go_enter func63,ntmps63;go_wp2_with (first|(go_at_call 116;refine (pK _ op z r m k e s).mono ?_;rw [h1];rintro e9 w1 ⟨rfl,k1⟩;have B1:=Zr (B0.o.ae k1);have K1:=Zr (K0.o.trans k1);obtain ⟨b0,b1,b2,b3,b4,b5,b6⟩:=B1.o.c7;clear k1)|(go_at_call 117;refine (jV _ m k e wfm wfk wfe).mono ?_;rw [h2];rintro e9 w2 ⟨rfl,k2⟩;have B2:=Zr (B1.o.ae k2);have K2:=Zr (K1.o.trans k2);obtain ⟨c0,c1,c2,c3,c4,c5,c6⟩:=B2.o.c7;clear k2)|(go_at_call 118;refine (zy _ op z r m k e s wfe).mono ?_;rw [h3];rintro e9 w3 ⟨rfl,k3⟩;have B3:=Zr (B2.o.ae k3);have K3:=Zr (K2.o.trans k3);obtain ⟨d0,d1,d2,d3,d4,d5,d6⟩:=B3.o.c7;clear k3));go_ret;exact ⟨rB (by simp),K3.o⟩
   ·go_enter func63,ntmps63;go_wp2_with (first|(go_at_call 116;refine (pK _ op z r m k e s).mono ?_;rw [h1];rintro e9 w1 ⟨rfl,k1⟩;have B1:=Zr (B0.o.ae k1);have K1:=Zr (K0.o.trans k1);obtain ⟨b0,b1,b2,b3,b4,b5,b6⟩:=B1.o.c7;clear k1)|(go_at_call 117;refine (jV _ m k e wfm wfk wfe).mono ?_;rw [h2];rintro e9 w2 ⟨rfl,k2⟩;have B2:=Zr (B1.o.ae k2);have K2:=Zr (K1.o.trans k2);obtain ⟨c0,c1,c2,c3,c4,c5,c6⟩:=B2.o.c7;clear k2)|(go_at_call 118;refine (zy _ op z r m k e s wfe).mono ?_;rw [h3];rintro e9 w3 ⟨rfl,k3⟩;have B3:=Zr (B2.o.ae k3);have K3:=Zr (K2.o.trans k3);obtain ⟨d0,d1,d2,d3,d4,d5,d6⟩:=B3.o.c7;clear k3)|(go_at_call 119;refine (TE _ op z r m k e s h0).mono ?_;rintro e9 w4 ⟨rfl,k4⟩;have B4:=Zr (B3.o.ae k4);have K4:=Zr (K3.o.trans k4);clear k4));go_ret;exact ⟨rB (by simp),K4.o⟩
def kv (p:Int × Int):Value:=.agg #[iv p.1,iv p.2]
def pV:List (Int × Int)->Nat->List MapEntry
 | [],_=>[]
 | p :: t,n=>⟨kv p,.agg #[],n⟩ :: pV t (n+1)
theorem FC (ks:List (Int × Int)) (p:Int × Int):∀n,pV (ks++[p]) n=pV ks n++[⟨kv p,.agg #[],n+ks.length⟩]:=by
 induction ks with
 | nil=>intro n;rfl
 | cons q t ih=>intro n;simp only [List.cons_append,pV,ih,List.length_cons];rw [show n+1+t.length=n+(t.length+1) by omega]
theorem eqK (p q:Int × Int) (w:World):(Op.equal 249 (kv p) (kv q)).run prog w=.ok ((p.1==q.1)&&(p.2==q.2)) w:=by
 obtain ⟨a,b⟩:=p;obtain ⟨c,d⟩:=q;unfold kv;rw [show Op.equal 249 (.agg #[iv a,iv b]) (.agg #[iv c,iv d])=Op.equalIn 10000 249 (.agg #[iv a,iv b]) (.agg #[iv c,iv d]) from rfl];go_simp;by_cases h1:a=c<;>by_cases h2:b=d<;>simp [h1,h2]
theorem TM (b:Bool) (p:Int × Int) (w:World):(Instr.checkKey b 10000 249 (kv p)).run prog w=.ok () w:=by
 obtain ⟨a,c⟩:=p;unfold kv;kernel_rfl
theorem We (p:Int × Int) (w:World):∀(ks:List (Int × Int)) (n i:Nat),∃j,(Instr.findAsking 249 (kv p) (pV ks n) i).run prog w=.ok (if p∈ks then some (j,.agg #[]) else none) w:=by
 intro ks;induction ks with
 | nil=>intro n i;exact ⟨0,rfl⟩
 | cons q t ih=>
  intro n i;by_cases h:p=q
  ·subst h;refine ⟨i,?_⟩;simp [pV,Instr.findAsking,eqK,Result.andThen]
  ·obtain ⟨j,hj⟩:=ih (n+1) (i+1);refine ⟨j,?_⟩
   have hq:((p.1==q.1)&&(p.2==q.2))=false:=by
    obtain ⟨a,b⟩:=p;obtain ⟨c,d⟩:=q;simp at h ⊢;exact h
   have hm:(p∈q :: t)=(p∈t):=by simp [h]
   simp only [hm];simp [pV,Instr.findAsking,eqK,hq,Result.andThen,hj]
theorem TF (p:Int × Int) (d:TypeDesc) (hd:prog.underlying 249=some d) (ks:List (Int × Int)) (n:Nat):Instr.findNow d (kv p) (pV ks n) 0=some none∧ks=[]∨Instr.findNow d (kv p) (pV ks n) 0=none:=by
 cases ks with
 | nil=>exact .inl ⟨rfl,rfl⟩
 | cons q t=>
  refine .inr ?_;unfold pV kv Instr.findNow;cases d<;>simp [Instr.sameNow]
theorem QN (p:Int × Int) (w:World) (ks:List (Int × Int)) (n:Nat):∃j,(Instr.findKey 249 (kv p) (pV ks n)).run prog w=.ok (if p∈ks then some (j,.agg #[]) else none) w:=by
 obtain ⟨d,hd⟩:∃d,prog.underlying 249=some d:=⟨_,underlying249⟩
 rcases TF p d hd ks n with ⟨h,rfl⟩|h
 ·exact ⟨0,by simp [Instr.findKey,run_underlying hd,h,Result.andThen]⟩
 ·obtain ⟨j,hj⟩:=We p w ks n 0;exact ⟨j,by simp [Instr.findKey,run_underlying hd,h,Result.andThen,hj]⟩
theorem RJ (p:Int × Int) (w:World) (g:Nat) (ks:List (Int × Int)) (hb:w.heap[g]? = some (.map (pV ks 0).toArray ks.length)) (hp:p∉ks) :
  (Instr.mapUpdate 251 (.map (some g)) (kv p) (.agg #[])).run prog w=.ok () {w with heap:=w.heap.setIfInBounds g (.map (pV (ks++[p]) 0).toArray (ks++[p]).length)}:=by
 obtain ⟨j,hj⟩:=QN p w ks 0;rw [if_neg hp] at hj;rw [FC];simp [Instr.mapUpdate,run_underlying underlying251,MapKept.run_getObj_map hb,TM,hj,MapKept.run_setObj_map _ hb,Result.andThen]
theorem VS (p:Int × Int) (w:World) (g c:Nat) (ks:List (Int × Int)) (hb:w.heap[g]? = some (.map (pV ks 0).toArray c)) (hz:(zeroValue 250).run prog w=.ok (.agg #[]) w) :
  (Instr.lookup 251 (.map (some g)) (kv p) true).run prog w=.ok (.tuple #[.agg #[],.bool (decide (p∈ks))]) w:=by
 obtain ⟨j,hj⟩:=QN p w ks 0;by_cases hp:p∈ks
 ·rw [if_pos hp] at hj;simp [Instr.lookup,run_underlying underlying251,MapKept.run_getObj_map hb,TM,hj,Result.andThen,hp]
 ·rw [if_neg hp] at hj;simp [Instr.lookup,run_underlying underlying251,MapKept.run_getObj_map hb,TM,hj,Result.andThen,hp,hz]
theorem uQ {lo hi g:Nat} {w W:World} (h:Kept lo hi w W) (hg:w.heap.size<=g) (ob:Obj):Kept lo hi w {W with heap:=W.heap.setIfInBounds g ob}:=
 ⟨h.os,h.tape,h.output,by simpa using h.size,fun k hk hn=>by
  show (W.heap.setIfInBounds g ob)[k]? = _
  rw [Array.getElem?_setIfInBounds_ne (by omega)]
  exact h.block k hk hn⟩
def jo (l:Array Bool) (W:World) (g:Nat):Prop:=
 (l.getD 0 true=false->W.heap.size=g∧l.getD 3 true=false∧l.getD 6 true=false∧l.getD 9 true=false)∧
 (l.getD 0 true=true->∃ks:List (Int × Int),W.heap[g]? = some (.map (pV ks 0).toArray ks.length)∧∀p,p∈ks↔(l.getD 3 true=true∧p=(15,1))∨(l.getD 6 true=true∧p=(15,3))∨(l.getD 9 true=true∧p=(19,0)))
theorem jo.past {l:Array Bool} {W:World} {g i:Nat} (h:jo l W g) (h0:0≠i) (h3:3≠i) (h6:6≠i) (h9:9≠i):jo (l.setIfInBounds i true) W g:=by
 unfold jo at h ⊢;rw [getD_set_ne h0,getD_set_ne h3,getD_set_ne h6,getD_set_ne h9];exact h
theorem jo.made {l:Array Bool} {W:World} {g:Nat} (h:jo l W g) (h0:l.getD 0 true=false):W.heap.size=g∧jo (l.setIfInBounds 0 true) (W.alloc (.map #[] 0)) g:=by
 obtain ⟨hs,a3,a6,a9⟩:=h.1 h0;refine ⟨hs,fun q => ?_,fun _=>⟨[],?_,fun p => ?_⟩⟩
 ·rw [gy] at q;cases q
 ·rw [<-hs];exact heap_alloc_new W _
 ·rw [getD_set_ne (by decide),getD_set_ne (by decide),getD_set_ne (by decide),a3,a6,a9];simp
theorem jo.map {l:Array Bool} {W:World} {g:Nat} (h:jo l W g) (h0:l.getD 0 true=true):∃ks:List (Int × Int),W.heap[g]? = some (.map (pV ks 0).toArray ks.length)∧∀p,p∈ks↔(l.getD 3 true=true∧p=(15,1))∨(l.getD 6 true=true∧p=(15,3))∨(l.getD 9 true=true∧p=(19,0)):=h.2 h0
theorem BK {W:World} {g:Nat} {ob ob':Obj} (h:W.heap[g]? = some ob):({W with heap:=W.heap.setIfInBounds g ob'}:World).heap[g]? = some ob':=by
 show (W.heap.setIfInBounds g ob')[g]? = _
 have:g<W.heap.size:=by
  rcases Nat.lt_or_ge g W.heap.size with q|q
  ·exact q
  ·rw [Array.getElem?_eq_none q] at h;cases h
 rw [Array.getElem?_setIfInBounds];simp [this]
theorem jo.Yi {l:Array Bool} {W:World} {g:Nat} (h:jo l W g) (h0:l.getD 0 true=true) (hi:l.getD 3 true=false):∃W2:World,(Instr.mapUpdate 251 (.map (some g)) (kv (15,1)) (.agg #[])).run prog W=.ok () W2∧jo (l.setIfInBounds 3 true) W2 g∧(∀w:World,w.heap.size<=g->Kept 0 0 w W->Kept 0 0 w W2):=by
 obtain ⟨ks,hb,hk⟩:=h.map h0;refine ⟨_,RJ (15,1) W g ks hb (by rw [hk,hi];simp),⟨fun q => ?_,fun _=>⟨ks++[(15,1)],BK hb,fun p => ?_⟩⟩,fun w hw k=>uQ k hw _⟩
 ·rw [getD_set_ne (by decide),h0] at q;cases q
 ·rw [gy,getD_set_ne (by decide),getD_set_ne (by decide),List.mem_append,hk,hi];simp;grind
theorem jo.Yh {l:Array Bool} {W:World} {g:Nat} (h:jo l W g) (h0:l.getD 0 true=true) (hi:l.getD 6 true=false):∃W2:World,(Instr.mapUpdate 251 (.map (some g)) (kv (15,3)) (.agg #[])).run prog W=.ok () W2∧jo (l.setIfInBounds 6 true) W2 g∧(∀w:World,w.heap.size<=g->Kept 0 0 w W->Kept 0 0 w W2):=by
 obtain ⟨ks,hb,hk⟩:=h.map h0;refine ⟨_,RJ (15,3) W g ks hb (by rw [hk,hi];simp),⟨fun q => ?_,fun _=>⟨ks++[(15,3)],BK hb,fun p => ?_⟩⟩,fun w hw k=>uQ k hw _⟩
 ·rw [getD_set_ne (by decide),h0] at q;cases q
 ·rw [gy,getD_set_ne (by decide),getD_set_ne (by decide),List.mem_append,hk,hi];simp;grind
theorem jo.Yg {l:Array Bool} {W:World} {g:Nat} (h:jo l W g) (h0:l.getD 0 true=true) (hi:l.getD 9 true=false):∃W2:World,(Instr.mapUpdate 251 (.map (some g)) (kv (19,0)) (.agg #[])).run prog W=.ok () W2∧jo (l.setIfInBounds 9 true) W2 g∧(∀w:World,w.heap.size<=g->Kept 0 0 w W->Kept 0 0 w W2):=by
 obtain ⟨ks,hb,hk⟩:=h.map h0;refine ⟨_,RJ (19,0) W g ks hb (by rw [hk,hi];simp),⟨fun q => ?_,fun _=>⟨ks++[(19,0)],BK hb,fun p => ?_⟩⟩,fun w hw k=>uQ k hw _⟩
 ·rw [getD_set_ne (by decide),h0] at q;cases q
 ·rw [gy,getD_set_ne (by decide),getD_set_ne (by decide),List.mem_append,hk,hi];simp;grind
theorem iP (w:World) (op z r m k e s:Int):Calls prog 223 #[.agg (inA op z r m k e s)] w fun r' w'=>r'=.returned (.bool (jc ⟨op,z,r,m,k,e,s⟩))∧Kept 0 0 w w':=by
 have K0:=Zr (kept_alloc w (.cells (inA op z r m k e s) 48));have B0:=Zr (Blk.new w (inA op z r m k e s) 48);go_enter func223,ntmps223;go_wp2_with fail;refine gY (fun A0 l A W=>FR [6,7,8,9,10,11,12,13,3] A0 A∧Once l 0 (A.tmps[6]? = some (.map (some (w.heap.size+1))))∧Once l 1 (A.tmps[7]? = some (kv (15,1)))∧Once l 2 (A.tmps[8]? = some (.agg #[]))∧Once l 3 (True)∧Once l 4 (A.tmps[9]? = some (kv (15,3)))∧Once l 5 (A.tmps[10]? = some (.agg #[]))∧Once l 6 (True)∧Once l 7 (A.tmps[11]? = some (kv (19,0)))∧Once l 8 (A.tmps[12]? = some (.agg #[]))∧Once l 9 (True)∧Once l 10 (A.tmps[13]? = some (.map (some (w.heap.size+1))))∧Once l 11 (A.tmps[3]? = some (.map (some (w.heap.size+1))))∧jo l W (w.heap.size+1)∧Kept 0 0 (w.alloc (.cells (inA op z r m k e s) 48)) W) (by kernel_rfl) (by kernel_rfl) ?start ?fin ?step
 case start=>exact ⟨FR.refl _ _,ay (by decide),ay (by decide),ay (by decide),ay (by decide),ay (by decide),ay (by decide),ay (by decide),ay (by decide),ay (by decide),ay (by decide),ay (by decide),ay (by decide),⟨fun _=>⟨by simp,lK (by decide),lK (by decide),lK (by decide)⟩,fun q=>by rw [lK (by decide)] at q;cases q⟩,ah (Kept.refl _ _ _)⟩
 case fin=>
  intro l A W h hl;obtain ⟨hFR,o0,o1,o2,o3,o4,o5,o6,o7,o8,o9,o10,o11,hM,hK⟩:=h;have g11:=o11 (hl 11 (by decide));obtain ⟨ks,hb,hks⟩:=hM.map (hl 0 (by decide));rw [hl 3 (by decide),hl 6 (by decide),hl 9 (by decide)] at hks;have hlk:=fun hz=>VS (op,s) W (w.heap.size+1) _ ks hb hz;have hlk2:=hlk (by kernel_rfl);rw [show decide ((op,s)∈ks)=jc ⟨op,z,r,m,k,e,s⟩ from by rw [<-Bool.coe_iff_coe];simp [hks,jc];grind] at hlk2;have BX:=Zr (B0.o.ae hK);obtain ⟨x0,x1,x2,x3,x4,x5,x6⟩:=BX.o.c7;have KQ:=Zr (K0.o.trans hK);unfold kv at hlk2;have HL:=Zr hlk2;have hc9:=hFR.chain;simp only [List.foldl] at hc9;rw [mP g11] at hc9;clear hl hK hFR hM hb hks hlk hlk2 g11 o0 o1 o2 o3 o4 o5 o6 o7 o8 o9 o10 o11;generalize A.tmps.getD 6 undef=s6 at hc9;generalize A.tmps.getD 7 undef=s7 at hc9;generalize A.tmps.getD 8 undef=s8 at hc9;generalize A.tmps.getD 9 undef=s9 at hc9;generalize A.tmps.getD 10 undef=s10 at hc9;generalize A.tmps.getD 11 undef=s11 at hc9;generalize A.tmps.getD 12 undef=s12 at hc9;generalize A.tmps.getD 13 undef=s13 at hc9;subst hc9;have hlk3:=HL.o;go_simp;go_wp2_with fail;go_ret;exact ⟨rfl,ag KQ.o _⟩
 case step=>
  intro l A W i hI hm;obtain ⟨hFR,o0,o1,o2,o3,o4,o5,o6,o7,o8,o9,o10,o11,hM,hK⟩:=hI;obtain ⟨hi1,hi2⟩:=jB hm;have hsz:Hid (13<A.tmps.size):=Zr (by rw [hFR.size];simp);rcases i with _|_|_|_|_|_|_|_|_|_|_|_|i
  ·obtain ⟨hs,hM2⟩:=hM.made hi2;have hmm:=run_makeMap (P:=prog) 251 W;rw [hs] at hmm;refine wpOp_step rfl (fun KK hK2 => ?_);go_simp;exact hK2 (A.put (some 6) (.map (some (w.heap.size+1)))) _ ⟨hFR.put (by decide) _,.now (put_eq (by have hz:=hsz.o;omega)),o1.q,o2.q,o3.n,o4.q,o5.q,o6.n,o7.q,o8.q,o9.n,o10.q,o11.q,hM2,ag hK _⟩
  ·refine wpOp_step rfl (fun KK hK2 => ?_);go_simp;exact hK2 (A.put (some 7) (.agg #[iv 15,iv 1])) _ ⟨hFR.put (by decide) _,o0.q,.now (by unfold kv;exact put_eq (by have hz:=hsz.o;omega)),o2.q,o3.n,o4.q,o5.q,o6.n,o7.q,o8.q,o9.n,o10.q,o11.q,hM.past (by decide) (by decide) (by decide) (by decide),hK⟩
  ·refine wpOp_step rfl (fun KK hK2 => ?_);go_simp;exact hK2 (A.put (some 8) (.agg #[])) _ ⟨hFR.put (by decide) _,o0.q,o1.q,.now (put_eq (by have hz:=hsz.o;omega)),o3.n,o4.q,o5.q,o6.n,o7.q,o8.q,o9.n,o10.q,o11.q,hM.past (by decide) (by decide) (by decide) (by decide),hK⟩
  ·have e0:=o0 (az hm 0 (by kernel_rfl));have e1:=o1 (az hm 1 (by kernel_rfl));have e2:=o2 (az hm 2 (by kernel_rfl));obtain ⟨W2,hu,hM2,hKK⟩:=hM.Yi (az hm 0 (by kernel_rfl)) hi2;replace hKK:=hKK _ (by simp) hK;unfold kv at e1 hu;refine wpOp_step rfl (fun KK hK2 => ?_);go_simp;exact hK2 A _ ⟨hFR,o0.n,o1.n,o2.n,.now trivial,o4.n,o5.n,o6.n,o7.n,o8.n,o9.n,o10.n,o11.n,hM2,hKK⟩
  ·refine wpOp_step rfl (fun KK hK2 => ?_);go_simp;exact hK2 (A.put (some 9) (.agg #[iv 15,iv 3])) _ ⟨hFR.put (by decide) _,o0.q,o1.q,o2.q,o3.n,.now (by unfold kv;exact put_eq (by have hz:=hsz.o;omega)),o5.q,o6.n,o7.q,o8.q,o9.n,o10.q,o11.q,hM.past (by decide) (by decide) (by decide) (by decide),hK⟩
  ·refine wpOp_step rfl (fun KK hK2 => ?_);go_simp;exact hK2 (A.put (some 10) (.agg #[])) _ ⟨hFR.put (by decide) _,o0.q,o1.q,o2.q,o3.n,o4.q,.now (put_eq (by have hz:=hsz.o;omega)),o6.n,o7.q,o8.q,o9.n,o10.q,o11.q,hM.past (by decide) (by decide) (by decide) (by decide),hK⟩
  ·have e0:=o0 (az hm 0 (by kernel_rfl));have e4:=o4 (az hm 4 (by kernel_rfl));have e5:=o5 (az hm 5 (by kernel_rfl));obtain ⟨W2,hu,hM2,hKK⟩:=hM.Yh (az hm 0 (by kernel_rfl)) hi2;replace hKK:=hKK _ (by simp) hK;unfold kv at e4 hu;refine wpOp_step rfl (fun KK hK2 => ?_);go_simp;exact hK2 A _ ⟨hFR,o0.n,o1.n,o2.n,o3.n,o4.n,o5.n,.now trivial,o7.n,o8.n,o9.n,o10.n,o11.n,hM2,hKK⟩
  ·refine wpOp_step rfl (fun KK hK2 => ?_);go_simp;exact hK2 (A.put (some 11) (.agg #[iv 19,iv 0])) _ ⟨hFR.put (by decide) _,o0.q,o1.q,o2.q,o3.n,o4.q,o5.q,o6.n,.now (by unfold kv;exact put_eq (by have hz:=hsz.o;omega)),o8.q,o9.n,o10.q,o11.q,hM.past (by decide) (by decide) (by decide) (by decide),hK⟩
  ·refine wpOp_step rfl (fun KK hK2 => ?_);go_simp;exact hK2 (A.put (some 12) (.agg #[])) _ ⟨hFR.put (by decide) _,o0.q,o1.q,o2.q,o3.n,o4.q,o5.q,o6.n,o7.q,.now (put_eq (by have hz:=hsz.o;omega)),o9.n,o10.q,o11.q,hM.past (by decide) (by decide) (by decide) (by decide),hK⟩
  ·have e0:=o0 (az hm 0 (by kernel_rfl));have e7:=o7 (az hm 7 (by kernel_rfl));have e8:=o8 (az hm 8 (by kernel_rfl));obtain ⟨W2,hu,hM2,hKK⟩:=hM.Yg (az hm 0 (by kernel_rfl)) hi2;replace hKK:=hKK _ (by simp) hK;unfold kv at e7 hu;refine wpOp_step rfl (fun KK hK2 => ?_);go_simp;exact hK2 A _ ⟨hFR,o0.n,o1.n,o2.n,o3.n,o4.n,o5.n,o6.n,o7.n,o8.n,.now trivial,o10.n,o11.n,hM2,hKK⟩
  ·have e0:=o0 (az hm 0 (by kernel_rfl));refine wpOp_step rfl (fun KK hK2 => ?_);go_simp;exact hK2 (A.put (some 13) (.map (some (w.heap.size+1)))) _ ⟨hFR.put (by decide) _,o0.q,o1.q,o2.q,o3.n,o4.q,o5.q,o6.n,o7.q,o8.q,o9.n,.now (put_eq (by have hz:=hsz.o;omega)),o11.q,hM.past (by decide) (by decide) (by decide) (by decide),hK⟩
  ·have e10:=o10 (az hm 10 (by kernel_rfl));refine wpOp_step rfl (fun KK hK2 => ?_);go_simp;exact hK2 (A.put (some 3) (.map (some (w.heap.size+1)))) _ ⟨hFR.put (by decide) _,o0.q,o1.q,o2.q,o3.n,o4.q,o5.q,o6.n,o7.q,o8.q,o9.n,o10.q,.now (put_eq (by have hz:=hsz.o;omega)),hM.past (by decide) (by decide) (by decide) (by decide),hK⟩
  ·simp at hi1
   omega
theorem Wn {n v:Int} (h:aJ n=true):0<=n∧n<=65535∧(Lit.int .i64 (Pl.decode n v).m).wf=true∧(if lng (Pl.decode n v).m=true then (2:Int) else 1)=dO n:=by
 simp [aJ,within] at h;refine ⟨h.1,h.2,qy ?_ ?_,?_⟩
 ·show -1<=n/32%8;omega
 ·show n/32%8<=65536;omega
 ·show (if lng (n/32%8)=true then (2:Int) else 1)=_
  unfold lng dO;rw [show bH (n/32%8)=true from by simp [bH,within];omega];rfl
theorem sN (w:World) (n:Int) (wfn:(Lit.int .i64 n).wf=true):Calls prog 188 #[iv n] w fun e' w'=>e'=.returned (.tuple #[iv (if aJ n=true then dO n else 0),.bool (aJ n)])∧Kept 0 0 w w':=by
 obtain ⟨lo,hi⟩:=wfB wfn;cases h:aJ n
 ·go_enter func188,ntmps188;go_wp2_with (go_at_call 64;refine st (isWord _ _ lo hi) ?_;rw [h]);go_ret2;exact ⟨rfl,Kept.refl _ _ _⟩
 ·obtain ⟨n0,n1,wm,hl⟩:=Wn (v:=0) h;obtain ⟨x,hx⟩:∃x,Pl.decode n 0=x:=⟨_,rfl⟩
  rw [hx] at wm hl;have HX:=Zr hx;have HL:=Zr hl;clear hx hl;go_enter func188,ntmps188;go_wp2_with (first|(go_at_call 64;refine st (isWord _ _ lo hi) ?_;rw [h])|(go_at_call 166;refine (insOf _ n 0 n0 n1).mono ?_;rw [HX.o];rintro e9 w2 ⟨rfl,k2⟩)|(go_at_call 80;refine (lengthOf _ _ _ _ _ _ _ _ wm).mono ?_;rw [HL.o];rintro e9 w3 ⟨rfl,k3⟩));go_ret2;exact ⟨rfl,k2.trans k3⟩
def Pl.iO (w v:Int):Bool:=aJ w&&bI (Pl.decode w v)
def Pl.qj (w v:Int):Pl.In:=if iO w v=true then Pl.decode w v else uU
def Pl.qF (w v:Int):Int:=if iO w v=true then dO w else 0
theorem Wl {n v:Int} (h:aJ n=true) (wfv:(Lit.int .i64 v).wf=true):(Lit.int .i64 (Pl.decode n v).op).wf=true∧(Lit.int .i64 (Pl.decode n v).z).wf=true∧(Lit.int .i64 (Pl.decode n v).r).wf=true∧(Lit.int .i64 (Pl.decode n v).m).wf=true∧(Lit.int .i64 (Pl.decode n v).k).wf=true∧(Lit.int .i64 (Pl.decode n v).e).wf=true∧(Lit.int .i64 (Pl.decode n v).s).wf=true:=by
 simp [aJ,within] at h;rw [vk];simp only [Pl.decode];refine ⟨qy (by omega) (by omega),qy (by omega) (by omega),qy (by omega) (by omega),qy (by omega) (by omega),qy (by omega) (by omega),?_,qy (by omega) (by omega)⟩;cases jH (n/32%8)
 ·exact qy (n:=0) (by decide) (by decide)
 ·exact wfv
theorem uH (w:World) (n v:Int) (wfn:(Lit.int .i64 n).wf=true) (wfv:(Lit.int .i64 v).wf=true):Calls prog 189 #[iv n,iv v] w fun e' w'=>e'=.returned (.tuple #[.agg #[iv (qj n v).op,iv (qj n v).z,iv (qj n v).r,iv (qj n v).m,iv (qj n v).k,iv (qj n v).e,iv (qj n v).s],iv (qF n v),.bool (iO n v)])∧Kept 0 0 w w':=by
 obtain ⟨lo,hi⟩:=wfB wfn;have K0:=Zr (kept_alloc w (.cells (inA 0 0 0 0 0 0 0) 48));have R0:=Zr (Blk.new w (inA 0 0 0 0 0 0 0) 48);cases h:aJ n
 ·have G:Hid (iO n v=false):=Zr (by simp only [iO,h];rfl);go_enter func189,ntmps189;go_wp2_with (go_at_call 64;refine st (isWord _ _ lo hi) ?_;rw [h]);refine bodyPost_ret (v:=.tuple #[.agg (inA 0 0 0 0 0 0 0),iv 0,.bool false]) ?_ rfl ⟨by simp [qj,qF,G.o,uU],?_⟩
  ·rw [og rfl];go_simp
  ·exact K0.o
 ·obtain ⟨n0,n1,wm,hl⟩:=Wn (v:=v) h;have wx:=Wl h wfv;obtain ⟨x,hx⟩:∃x,Pl.decode n v=x:=⟨_,rfl⟩
  rw [hx] at wm hl wx;have HX:=Zr hx;have HL:=Zr hl;clear hx hl;cases hg:bI x
  ·have G:Hid (iO n v=false):=Zr (by simp only [iO,h,HX.o,hg];rfl);go_enter func189,ntmps189;go_wp2_with (first|(go_at_call 64;refine st (isWord _ _ lo hi) ?_;rw [h])|(go_at_call 166;refine (insOf _ n v n0 n1).mono ?_;rw [HX.o];rintro e9 w2 ⟨rfl,k2⟩;have R2:=Zr (R0.o.ae k2);have K2:=Zr (K0.o.trans k2);have s2:=R2.o.lt;obtain ⟨y0,y1,y2,y3,y4,y5,y6⟩:=R2.o.c7;have fy0:=R2.o.frozen 0;have fy1:=R2.o.frozen 1;have fy2:=R2.o.frozen 2;have fy3:=R2.o.frozen 3;have fy4:=R2.o.frozen 4;have fy5:=R2.o.frozen 5;have fy6:=R2.o.frozen 6;clear k2)|(go_at_call 63;refine (sO _ x.op x.z x.r x.m x.k x.e x.s wx.1 wx.2.1 wx.2.2.1 wx.2.2.2.1 wx.2.2.2.2.1 wx.2.2.2.2.2.1 wx.2.2.2.2.2.2).mono ?_;rw [show bI ⟨x.op,x.z,x.r,x.m,x.k,x.e,x.s⟩=bI x from rfl,hg];rintro e9 w3 ⟨rfl,k3⟩;have R3:=Zr ((R2.o.alloc _).ae k3);have X3:=Zr ((Blk.new w2 (inX x) 48).ae k3);have K3:=Zr ((ag K2.o _).trans k3);have s3:=R3.o.lt;obtain ⟨q0,q1,q2,q3,q4,q5,q6⟩:=R3.o.c7;have fq0:=R3.o.frozen 0;have fq1:=R3.o.frozen 1;have fq2:=R3.o.frozen 2;have fq3:=R3.o.frozen 3;have fq4:=R3.o.frozen 4;have fq5:=R3.o.frozen 5;have fq6:=R3.o.frozen 6;clear k3));have s0:=R0.o.lt;refine bodyPost_ret (v:=.tuple #[.agg (inA 0 0 0 0 0 0 0),iv 0,.bool false]) ?_ rfl ⟨by simp [qj,qF,G.o,uU],?_⟩
   ·rw [og rfl];go_simp
   ·exact (af (af (af (af (af (af (af K3.o _ _ _ (.inr (by omega))) _ _ _ (.inr (by omega))) _ _ _ (.inr (by omega))) _ _ _ (.inr (by omega))) _ _ _ (.inr (by omega))) _ _ _ (.inr (by omega))) _ _ _ (.inr (by omega)))
  ·have G:Hid (iO n v=true):=Zr (by simp only [iO,h,HX.o,hg];rfl);have EX:Hid (qj n v=x):=Zr (by simp [qj,G.o,HX.o]);have EN:Hid (qF n v=dO n):=Zr (by simp [qF,G.o]);rw [EX.o,EN.o,G.o];obtain ⟨L,hL⟩:∃L,dO n=L:=⟨_,rfl⟩
   rw [hL] at HL ⊢;clear hL;go_enter func189,ntmps189;go_wp2_with (first|(go_at_call 64;refine st (isWord _ _ lo hi) ?_;rw [h])|(go_at_call 166;refine (insOf _ n v n0 n1).mono ?_;rw [HX.o];rintro e9 w2 ⟨rfl,k2⟩;have R2:=Zr (R0.o.ae k2);have K2:=Zr (K0.o.trans k2);have s2:=R2.o.lt;obtain ⟨y0,y1,y2,y3,y4,y5,y6⟩:=R2.o.c7;have fy0:=R2.o.frozen 0;have fy1:=R2.o.frozen 1;have fy2:=R2.o.frozen 2;have fy3:=R2.o.frozen 3;have fy4:=R2.o.frozen 4;have fy5:=R2.o.frozen 5;have fy6:=R2.o.frozen 6;clear k2)|(go_at_call 63;refine (sO _ x.op x.z x.r x.m x.k x.e x.s wx.1 wx.2.1 wx.2.2.1 wx.2.2.2.1 wx.2.2.2.2.1 wx.2.2.2.2.2.1 wx.2.2.2.2.2.2).mono ?_;rw [show bI ⟨x.op,x.z,x.r,x.m,x.k,x.e,x.s⟩=bI x from rfl,hg];rintro e9 w3 ⟨rfl,k3⟩;have R3:=Zr ((R2.o.alloc _).ae k3);have X3:=Zr ((Blk.new w2 (inX x) 48).ae k3);have K3:=Zr ((ag K2.o _).trans k3);have s3:=R3.o.lt;clear k3));have hne:Hid (w.heap.size<w2.heap.size):=Zr R2.o.lt;refine gY (fun A0 l A W=>FR [19,20,21,5,6] A0 A∧Once l 0 (A.tmps[19]? = some (.agg (inX x)))∧Once l 1 (A.tmps[20]? = some (.agg (inX x)))∧Once l 2 (A.tmps[21]? = some (iv L))∧Once l 3 (True)∧Once l 4 (A.tmps[5]? = some (iv L))∧Once l 5 (A.tmps[6]? = some (.bool true))∧Blk W w.heap.size (bif l.getD 3 true then (inX x) else (inA 0 0 0 0 0 0 0)) 48∧Blk W w2.heap.size (inX x) 48∧Kept 0 0 w W) (by kernel_rfl) (by kernel_rfl) ?start ?fin ?step
   case start=>exact ⟨FR.refl _ _,ay (by decide),ay (by decide),ay (by decide),ay (by decide),ay (by decide),ay (by decide),(by rw [lK (by decide)];exact R3.o),X3.o,ah K3.o⟩
   case fin=>
    intro l A W h hl;obtain ⟨hFR,o0,o1,o2,o3,o4,o5,oR,oX,hK⟩:=h;have g4:=o4 (hl 4 (by decide));have QR:Hid (Blk W w.heap.size (inX x) 48):=Zr (by rw [hl 3 (by decide)] at oR;exact oR);obtain ⟨q0,q1,q2,q3,q4,q5,q6⟩:=QR.o.c7;have g5:=o5 (hl 5 (by decide));have QQ:=Zr hK;have hc9:=hFR.chain;simp only [List.foldl] at hc9;rw [mP g4,mP g5] at hc9;clear oR oX hl hK hFR g4 g5 o0 o1 o2 o3 o4 o5;generalize A.tmps.getD 19 undef=s19 at hc9;generalize A.tmps.getD 20 undef=s20 at hc9;generalize A.tmps.getD 21 undef=s21 at hc9;subst hc9;go_simp;go_wp2_with fail;refine bodyPost_ret (v:=.tuple #[.agg (inX x),iv L,.bool true]) ?_ rfl ⟨rfl,QQ.o⟩;rw [og rfl];go_simp
   case step=>
    intro l A W i hI hm;obtain ⟨hFR,o0,o1,o2,o3,o4,o5,oR,oX,hK⟩:=hI;obtain ⟨hi1,hi2⟩:=jB hm;have hsz:Hid (21<A.tmps.size):=Zr (by rw [hFR.size];simp);have m4:A.tmps[4]? = some (.pointer (some (Zt w.heap.size 0))):=(hFR.o 4 (by decide)).trans rfl;have m7:A.tmps[7]? = some (.pointer (some (Zt w2.heap.size 0))):=(hFR.o 7 (by decide)).trans rfl;rcases i with _|_|_|_|_|_|i
    ·have OX:=Zr oX;obtain ⟨x0,x1,x2,x3,x4,x5,x6⟩:=OX.o.c7;refine wpOp_step rfl (fun KK hK2 => ?_);go_simp;exact hK2 (A.put (some 19) (.agg (inX x))) _ ⟨hFR.put (by decide) _,.now (put_eq (by have hz:=hsz.o;omega)),o1.q,o2.q,o3.n,o4.q,o5.q,by rw [getD_set_ne (by decide)];exact oR,oX,hK⟩
    ·have OX:=Zr oX;obtain ⟨x0,x1,x2,x3,x4,x5,x6⟩:=OX.o.c7;refine wpOp_step rfl (fun KK hK2 => ?_);go_simp;exact hK2 (A.put (some 20) (.agg (inX x))) _ ⟨hFR.put (by decide) _,o0.q,.now (put_eq (by have hz:=hsz.o;omega)),o2.q,o3.n,o4.q,o5.q,by rw [getD_set_ne (by decide)];exact oR,oX,hK⟩
    ·have e1:=o1 (az hm 1 (by kernel_rfl));refine wpOp_step rfl (fun KK hK2 => ?_);go_simp;refine (lengthOf W x.op x.z x.r x.m x.k x.e x.s wm).mono ?_;rw [HL.o];rintro r9 y ⟨rfl,kd⟩;go_simp;exact hK2 (A.put (some 21) (iv L)) _ ⟨hFR.put (by decide) _,o0.q,o1.q,.now (put_eq (by have hz:=hsz.o;omega)),o3.n,o4.q,o5.q,by rw [getD_set_ne (by decide)];exact oR.ae kd,oX.ae kd,(hK.trans kd)⟩
    ·have e0:=o0 (az hm 0 (by kernel_rfl));have oR2:Blk W w.heap.size (inA 0 0 0 0 0 0 0) 48:=by rw [hi2] at oR;exact oR
     have OR:=Zr oR2;obtain ⟨q0,q1,q2,q3,q4,q5,q6⟩:=OR.o.c7;have fq0:=OR.o.frozen 0;have fq1:=OR.o.frozen 1;have fq2:=OR.o.frozen 2;have fq3:=OR.o.frozen 3;have fq4:=OR.o.frozen 4;have fq5:=OR.o.frozen 5;have fq6:=OR.o.frozen 6;have nh:w2.heap.size≠w.heap.size:=by have:=hne.o;omega
     refine wpOp_step rfl (fun KK hK2 => ?_);go_simp;exact hK2 A _ ⟨hFR,o0.n,o1.n,o2.n,.now trivial,o4.n,o5.n,by rw [gy];exact (((((((oR2.set 0 (iv x.op)).set 1 (iv x.z)).set 2 (iv x.r)).set 3 (iv x.m)).set 4 (iv x.k)).set 5 (iv x.e)).set 6 (iv x.s)),(((((((oX.other w.heap.size 0 (iv x.op) nh).other w.heap.size 1 (iv x.z) nh).other w.heap.size 2 (iv x.r) nh).other w.heap.size 3 (iv x.m) nh).other w.heap.size 4 (iv x.k) nh).other w.heap.size 5 (iv x.e) nh).other w.heap.size 6 (iv x.s) nh),(af (af (af (af (af (af (af hK _ _ _ (.inr (by omega))) _ _ _ (.inr (by omega))) _ _ _ (.inr (by omega))) _ _ _ (.inr (by omega))) _ _ _ (.inr (by omega))) _ _ _ (.inr (by omega))) _ _ _ (.inr (by omega)))⟩
    ·have e2:=o2 (az hm 2 (by kernel_rfl));refine wpOp_step rfl (fun KK hK2 => ?_);go_simp;exact hK2 (A.put (some 5) (iv L)) _ ⟨hFR.put (by decide) _,o0.q,o1.q,o2.q,o3.n,.now (put_eq (by have hz:=hsz.o;omega)),o5.q,by rw [getD_set_ne (by decide)];exact oR,oX,hK⟩
    ·refine wpOp_step rfl (fun KK hK2 => ?_);go_simp;exact hK2 (A.put (some 6) (.bool true)) _ ⟨hFR.put (by decide) _,o0.q,o1.q,o2.q,o3.n,o4.q,.now (put_eq (by have hz:=hsz.o;omega)),by rw [getD_set_ne (by decide)];exact oR,oX,hK⟩
    ·simp at hi1
     omega
end Go.Proofs.YtgikibaajanjiaaGreatDoor
