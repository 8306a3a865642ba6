/- Part 25 of what the last text leans on. -/
import Derived.Test.YtkkmnnhaailkcaaGreatDoorJA24
import Derived.BigQuiet
import Derived.Deep.QuietTactic
import Derived.Test.YtkkmnnhaailkcaaGreatDoorJA23
import Derived.Carry
import Derived.MapKept
set_option maxRecDepth 100000
set_option maxHeartbeats 16000000
namespace Go.Proofs.YtkkmnnhaailkcaaGreatDoor
open Go.RowKit Go.Proofs.Tryz
set_option linter.unusedVariables false
theorem O7 (w:World) (z r m k e s:Int) (h0:0≤s):Calls prog 190 #[.agg (inA 1 z r m k e s)] w fun r' w'=>r'=.returned (.bool (Pl.ax ⟨1,z,r,m,k,e,s⟩))∧Kept 0 0 w w':=by
 have K0:=hide (kept_alloc w (.cells (inA 1 z r m k e s) 109))
 rw [show Pl.ax ⟨1,z,r,m,k,e,s⟩=((s==0)&&((z==2) || !(m==1))) from rfl]
 cases a0:(s==0)
 ·go_enter func190,ntmps190
  go_wp2_with fail
  go_quiet (fail)
  go_wp2_with fail
  go_ret
  exact ⟨rB (by simp),au K0.o _⟩
 ·cases a1:(z==2)
  ·go_enter func190,ntmps190
   go_wp2_with fail
   go_quiet (fail)
   go_wp2_with fail
   go_ret
   exact ⟨rB (by simp [bne]),au K0.o _⟩
  ·go_enter func190,ntmps190
   go_wp2_with fail
   go_quiet (fail)
   go_wp2_with fail
   go_ret
   exact ⟨rB (by simp),au K0.o _⟩
theorem O6 (w:World) (z r m k e s:Int) (h0:0≤s):Calls prog 190 #[.agg (inA 2 z r m k e s)] w fun r' w'=>r'=.returned (.bool (Pl.ax ⟨2,z,r,m,k,e,s⟩))∧Kept 0 0 w w':=by
 have K0:=hide (kept_alloc w (.cells (inA 2 z r m k e s) 109))
 rw [show Pl.ax ⟨2,z,r,m,k,e,s⟩=((s==0)&&((m==0)||Pl.kD m)) from rfl]
 cases a0:(s==0)
 ·go_enter func190,ntmps190
  go_wp2_with fail
  go_quiet (fail)
  go_wp2_with fail
  go_ret
  exact ⟨rB (by simp),au K0.o _⟩
 ·go_enter func190,ntmps190
  go_wp2_with fail
  go_quiet (fail)
  go_wp2_with (go_at_call 215;refine st (DX _ _) ?_)
  go_ret
  exact ⟨rB (by simp),au K0.o _⟩
theorem OZ (w:World) (z r m k e s:Int) (h0:0≤s):Calls prog 190 #[.agg (inA 3 z r m k e s)] w fun r' w'=>r'=.returned (.bool (Pl.ax ⟨3,z,r,m,k,e,s⟩))∧Kept 0 0 w w':=by
 have K0:=hide (kept_alloc w (.cells (inA 3 z r m k e s) 109))
 rw [show Pl.ax ⟨3,z,r,m,k,e,s⟩=((s==0)&&((z==2) || !(m==1))) from rfl]
 cases a0:(s==0)
 ·go_enter func190,ntmps190
  go_wp2_with fail
  go_quiet (fail)
  go_wp2_with fail
  go_ret
  exact ⟨rB (by simp),au K0.o _⟩
 ·cases a1:(z==2)
  ·go_enter func190,ntmps190
   go_wp2_with fail
   go_quiet (fail)
   go_wp2_with fail
   go_ret
   exact ⟨rB (by simp [bne]),au K0.o _⟩
  ·go_enter func190,ntmps190
   go_wp2_with fail
   go_quiet (fail)
   go_wp2_with fail
   go_ret
   exact ⟨rB (by simp),au K0.o _⟩
theorem OY (w:World) (z r m k e s:Int) (h0:0≤s):Calls prog 190 #[.agg (inA 4 z r m k e s)] w fun r' w'=>r'=.returned (.bool (Pl.ax ⟨4,z,r,m,k,e,s⟩))∧Kept 0 0 w w':=by
 have K0:=hide (kept_alloc w (.cells (inA 4 z r m k e s) 109))
 rw [show Pl.ax ⟨4,z,r,m,k,e,s⟩=((s==0)&&((z==2) || !(m==1))) from rfl]
 cases a0:(s==0)
 ·go_enter func190,ntmps190
  go_wp2_with fail
  go_quiet (fail)
  go_wp2_with fail
  go_ret
  exact ⟨rB (by simp),au K0.o _⟩
 ·cases a1:(z==2)
  ·go_enter func190,ntmps190
   go_wp2_with fail
   go_quiet (fail)
   go_wp2_with fail
   go_ret
   exact ⟨rB (by simp [bne]),au K0.o _⟩
  ·go_enter func190,ntmps190
   go_wp2_with fail
   go_quiet (fail)
   go_wp2_with fail
   go_ret
   exact ⟨rB (by simp),au K0.o _⟩
theorem OU (w:World) (z r m k e s:Int) (h0:0≤s):Calls prog 190 #[.agg (inA 5 z r m k e s)] w fun r' w'=>r'=.returned (.bool (Pl.ax ⟨5,z,r,m,k,e,s⟩))∧Kept 0 0 w w':=by
 have K0:=hide (kept_alloc w (.cells (inA 5 z r m k e s) 109))
 rw [show Pl.ax ⟨5,z,r,m,k,e,s⟩=((s==0)&&((z==2) || !(m==1))) from rfl]
 cases a0:(s==0)
 ·go_enter func190,ntmps190
  go_wp2_with fail
  go_quiet (fail)
  go_wp2_with fail
  go_ret
  exact ⟨rB (by simp),au K0.o _⟩
 ·cases a1:(z==2)
  ·go_enter func190,ntmps190
   go_wp2_with fail
   go_quiet (fail)
   go_wp2_with fail
   go_ret
   exact ⟨rB (by simp [bne]),au K0.o _⟩
  ·go_enter func190,ntmps190
   go_wp2_with fail
   go_quiet (fail)
   go_wp2_with fail
   go_ret
   exact ⟨rB (by simp),au K0.o _⟩
theorem OT (w:World) (z r m k e s:Int) (h0:0≤s):Calls prog 190 #[.agg (inA 6 z r m k e s)] w fun r' w'=>r'=.returned (.bool (Pl.ax ⟨6,z,r,m,k,e,s⟩))∧Kept 0 0 w w':=by
 have K0:=hide (kept_alloc w (.cells (inA 6 z r m k e s) 109))
 rw [show Pl.ax ⟨6,z,r,m,k,e,s⟩=((s==0)&&((z==2) || !(m==1))) from rfl]
 cases a0:(s==0)
 ·go_enter func190,ntmps190
  go_wp2_with fail
  go_quiet (fail)
  go_wp2_with fail
  go_ret
  exact ⟨rB (by simp),au K0.o _⟩
 ·cases a1:(z==2)
  ·go_enter func190,ntmps190
   go_wp2_with fail
   go_quiet (fail)
   go_wp2_with fail
   go_ret
   exact ⟨rB (by simp [bne]),au K0.o _⟩
  ·go_enter func190,ntmps190
   go_wp2_with fail
   go_quiet (fail)
   go_wp2_with fail
   go_ret
   exact ⟨rB (by simp),au K0.o _⟩
theorem OO (w:World) (z r m k e s:Int) (h0:0≤s):Calls prog 190 #[.agg (inA 7 z r m k e s)] w fun r' w'=>r'=.returned (.bool (Pl.ax ⟨7,z,r,m,k,e,s⟩))∧Kept 0 0 w w':=by
 have K0:=hide (kept_alloc w (.cells (inA 7 z r m k e s) 109))
 rw [show Pl.ax ⟨7,z,r,m,k,e,s⟩=((s==0)&&((z==2) || !(m==1))) from rfl]
 cases a0:(s==0)
 ·go_enter func190,ntmps190
  go_wp2_with fail
  go_quiet (fail)
  go_wp2_with fail
  go_ret
  exact ⟨rB (by simp),au K0.o _⟩
 ·cases a1:(z==2)
  ·go_enter func190,ntmps190
   go_wp2_with fail
   go_quiet (fail)
   go_wp2_with fail
   go_ret
   exact ⟨rB (by simp [bne]),au K0.o _⟩
  ·go_enter func190,ntmps190
   go_wp2_with fail
   go_quiet (fail)
   go_wp2_with fail
   go_ret
   exact ⟨rB (by simp),au K0.o _⟩
theorem OM (w:World) (z r m k e s:Int) (h0:0≤s):Calls prog 190 #[.agg (inA 8 z r m k e s)] w fun r' w'=>r'=.returned (.bool (Pl.ax ⟨8,z,r,m,k,e,s⟩))∧Kept 0 0 w w':=by
 have K0:=hide (kept_alloc w (.cells (inA 8 z r m k e s) 109))
 rw [show Pl.ax ⟨8,z,r,m,k,e,s⟩=((s==0)&&((z==2) || !(m==1))) from rfl]
 cases a0:(s==0)
 ·go_enter func190,ntmps190
  go_wp2_with fail
  go_quiet (fail)
  go_wp2_with fail
  go_ret
  exact ⟨rB (by simp),au K0.o _⟩
 ·cases a1:(z==2)
  ·go_enter func190,ntmps190
   go_wp2_with fail
   go_quiet (fail)
   go_wp2_with fail
   go_ret
   exact ⟨rB (by simp [bne]),au K0.o _⟩
  ·go_enter func190,ntmps190
   go_wp2_with fail
   go_quiet (fail)
   go_wp2_with fail
   go_ret
   exact ⟨rB (by simp),au K0.o _⟩
theorem OL (w:World) (z r m k e s:Int) (h0:0≤s):Calls prog 190 #[.agg (inA 9 z r m k e s)] w fun r' w'=>r'=.returned (.bool (Pl.ax ⟨9,z,r,m,k,e,s⟩))∧Kept 0 0 w w':=by
 have K0:=hide (kept_alloc w (.cells (inA 9 z r m k e s) 109))
 rw [show Pl.ax ⟨9,z,r,m,k,e,s⟩=((z==2)&&(s==0)) from rfl]
 cases a0:(z==2)
 ·go_enter func190,ntmps190
  go_wp2_with fail
  go_quiet (fail)
  go_wp2_with fail
  go_ret
  exact ⟨rB (by simp),au K0.o _⟩
 ·go_enter func190,ntmps190
  go_wp2_with fail
  go_quiet (fail)
  go_wp2_with fail
  go_ret
  exact ⟨rB (by simp),au K0.o _⟩
theorem Kr (w:World) (z r m k e s:Int) (h0:0≤s):Calls prog 190 #[.agg (inA 10 z r m k e s)] w fun r' w'=>r'=.returned (.bool (Pl.ax ⟨10,z,r,m,k,e,s⟩))∧Kept 0 0 w w':=by
 have K0:=hide (kept_alloc w (.cells (inA 10 z r m k e s) 109))
 rw [show Pl.ax ⟨10,z,r,m,k,e,s⟩=(((z==2)&&(s==0))&&Pl.fH m) from rfl]
 cases a0:(z==2)
 ·go_enter func190,ntmps190
  go_wp2_with fail
  go_quiet (fail)
  go_wp2_with fail
  go_ret
  exact ⟨rB (by simp),au K0.o _⟩
 ·cases a1:(s==0)
  ·go_enter func190,ntmps190
   go_wp2_with fail
   go_quiet (fail)
   go_wp2_with fail
   go_ret
   exact ⟨rB (by simp),au K0.o _⟩
  ·go_enter func190,ntmps190
   go_wp2_with fail
   go_quiet (fail)
   go_wp2_with (go_at_call 216;refine st (DC _ _) ?_)
   go_ret
   exact ⟨rB (by simp),au K0.o _⟩
theorem Kq (w:World) (z r m k e s:Int) (h0:0≤s):Calls prog 190 #[.agg (inA 11 z r m k e s)] w fun r' w'=>r'=.returned (.bool (Pl.ax ⟨11,z,r,m,k,e,s⟩))∧Kept 0 0 w w':=by
 have K0:=hide (kept_alloc w (.cells (inA 11 z r m k e s) 109))
 rw [show Pl.ax ⟨11,z,r,m,k,e,s⟩=(((r==0)&&decide (s≤3))&&((m==0)||Pl.kD m)) from rfl]
 cases a0:(r==0)
 ·go_enter func190,ntmps190
  go_wp2_with fail
  go_quiet (fail)
  go_wp2_with fail
  go_ret
  exact ⟨rB (by simp),au K0.o _⟩
 ·cases a1:decide (s≤3)
  ·go_enter func190,ntmps190
   go_wp2_with fail
   go_quiet (fail)
   go_wp2_with fail
   go_ret
   exact ⟨rB (by simp),au K0.o _⟩
  ·go_enter func190,ntmps190
   go_wp2_with fail
   go_quiet (fail)
   go_wp2_with (go_at_call 215;refine st (DX _ _) ?_)
   go_ret
   exact ⟨rB (by simp),au K0.o _⟩
theorem Ko (w:World) (z r m k e s:Int) (h0:0≤s):Calls prog 190 #[.agg (inA 12 z r m k e s)] w fun r' w'=>r'=.returned (.bool (Pl.ax ⟨12,z,r,m,k,e,s⟩))∧Kept 0 0 w w':=by
 have K0:=hide (kept_alloc w (.cells (inA 12 z r m k e s) 109))
 rw [show Pl.ax ⟨12,z,r,m,k,e,s⟩=((m==0)) from rfl]
 go_enter func190,ntmps190
 go_wp2_with fail
 go_quiet (fail)
 go_wp2_with fail
 go_ret
 exact ⟨rB (by simp),au K0.o _⟩
theorem J9 (w:World) (z r m k e s:Int) (h0:0≤s):Calls prog 190 #[.agg (inA 13 z r m k e s)] w fun r' w'=>r'=.returned (.bool (Pl.ax ⟨13,z,r,m,k,e,s⟩))∧Kept 0 0 w w':=by
 have K0:=hide (kept_alloc w (.cells (inA 13 z r m k e s) 109))
 rw [show Pl.ax ⟨13,z,r,m,k,e,s⟩=(((z==2)&&decide (r≤1))&&(m==7)) from rfl]
 cases a0:(z==2)
 ·go_enter func190,ntmps190
  go_wp2_with fail
  go_quiet (fail)
  go_wp2_with fail
  go_ret
  exact ⟨rB (by simp),au K0.o _⟩
 ·cases a1:decide (r≤1)
  ·go_enter func190,ntmps190
   go_wp2_with fail
   go_quiet (fail)
   go_wp2_with fail
   go_ret
   exact ⟨rB (by simp),au K0.o _⟩
  ·go_enter func190,ntmps190
   go_wp2_with fail
   go_quiet (fail)
   go_wp2_with fail
   go_ret
   exact ⟨rB (by simp),au K0.o _⟩
theorem J8 (w:World) (z r m k e s:Int) (h0:0≤s):Calls prog 190 #[.agg (inA 14 z r m k e s)] w fun r' w'=>r'=.returned (.bool (Pl.ax ⟨14,z,r,m,k,e,s⟩))∧Kept 0 0 w w':=by
 have K0:=hide (kept_alloc w (.cells (inA 14 z r m k e s) 109))
 rw [show Pl.ax ⟨14,z,r,m,k,e,s⟩=((((z==2)&&(r==0))&&decide (s≤1))&&Pl.fH m) from rfl]
 cases a0:(z==2)
 ·go_enter func190,ntmps190
  go_wp2_with fail
  go_quiet (fail)
  go_wp2_with fail
  go_ret
  exact ⟨rB (by simp),au K0.o _⟩
 ·cases a1:(r==0)
  ·go_enter func190,ntmps190
   go_wp2_with fail
   go_quiet (fail)
   go_wp2_with fail
   go_ret
   exact ⟨rB (by simp),au K0.o _⟩
  ·cases a2:decide (s≤1)
   ·go_enter func190,ntmps190
    go_wp2_with fail
    go_quiet (fail)
    go_wp2_with fail
    go_ret
    exact ⟨rB (by simp),au K0.o _⟩
   ·go_enter func190,ntmps190
    go_wp2_with fail
    go_quiet (fail)
    go_wp2_with (go_at_call 216;refine st (DC _ _) ?_)
    go_ret
    exact ⟨rB (by simp),au K0.o _⟩
theorem J7 (w:World) (z r m k e s:Int) (h0:0≤s):Calls prog 190 #[.agg (inA 15 z r m k e s)] w fun r' w'=>r'=.returned (.bool (Pl.ax ⟨15,z,r,m,k,e,s⟩))∧Kept 0 0 w w':=by
 have K0:=hide (kept_alloc w (.cells (inA 15 z r m k e s) 109))
 rw [show Pl.ax ⟨15,z,r,m,k,e,s⟩=(bif s==3 then ((z==2)&&(r==0))&&Pl.jv m e else (((z==2)&&decide (s≤6))&&Pl.iw m k e)&&(decide (3<s)||(r==0))) from rfl]
 cases a0:(z==2)
 ·go_enter func190,ntmps190
  go_wp2_with fail
  go_quiet (fail)
  go_wp2_with fail
  go_ret
  exact ⟨rB (by cases hs:(s==3)<;>simp),au K0.o _⟩
 ·go_enter func190,ntmps190
  go_wp2_with fail
  go_quiet (fail)
  go_wp2_with (go_at_call 217;refine (Kt _ 15 z r m k e s h0).mono ?_;rintro e9 w2 ⟨rfl,k2⟩)
  go_ret
  exact ⟨rB (by cases hs:(s==3)<;>simp),(au K0.o _).trans k2⟩
theorem J6 (w:World) (z r m k e s:Int) (h0:0≤s):Calls prog 190 #[.agg (inA 16 z r m k e s)] w fun r' w'=>r'=.returned (.bool (Pl.ax ⟨16,z,r,m,k,e,s⟩))∧Kept 0 0 w w':=by
 have K0:=hide (kept_alloc w (.cells (inA 16 z r m k e s) 109))
 rw [show Pl.ax ⟨16,z,r,m,k,e,s⟩=(((z==2)&&(s==0)) && !(m==1)) from rfl]
 cases a0:(z==2)
 ·go_enter func190,ntmps190
  go_wp2_with fail
  go_quiet (fail)
  go_wp2_with fail
  go_ret
  exact ⟨rB (by simp),au K0.o _⟩
 ·cases a1:(s==0)
  ·go_enter func190,ntmps190
   go_wp2_with fail
   go_quiet (fail)
   go_wp2_with fail
   go_ret
   exact ⟨rB (by simp),au K0.o _⟩
  ·go_enter func190,ntmps190
   go_wp2_with fail
   go_quiet (fail)
   go_wp2_with fail
   go_ret
   exact ⟨rB (by simp [bne]),au K0.o _⟩
theorem J3 (w:World) (z r m k e s:Int) (h0:0≤s):Calls prog 190 #[.agg (inA 17 z r m k e s)] w fun r' w'=>r'=.returned (.bool (Pl.ax ⟨17,z,r,m,k,e,s⟩))∧Kept 0 0 w w':=by
 have K0:=hide (kept_alloc w (.cells (inA 17 z r m k e s) 109))
 rw [show Pl.ax ⟨17,z,r,m,k,e,s⟩=(((z==2)&&(s==0)) && !(m==1)) from rfl]
 cases a0:(z==2)
 ·go_enter func190,ntmps190
  go_wp2_with fail
  go_quiet (fail)
  go_wp2_with fail
  go_ret
  exact ⟨rB (by simp),au K0.o _⟩
 ·cases a1:(s==0)
  ·go_enter func190,ntmps190
   go_wp2_with fail
   go_quiet (fail)
   go_wp2_with fail
   go_ret
   exact ⟨rB (by simp),au K0.o _⟩
  ·go_enter func190,ntmps190
   go_wp2_with fail
   go_quiet (fail)
   go_wp2_with fail
   go_ret
   exact ⟨rB (by simp [bne]),au K0.o _⟩
theorem JZ (w:World) (z r m k e s:Int) (h0:0≤s):Calls prog 190 #[.agg (inA 18 z r m k e s)] w fun r' w'=>r'=.returned (.bool (Pl.ax ⟨18,z,r,m,k,e,s⟩))∧Kept 0 0 w w':=by
 have K0:=hide (kept_alloc w (.cells (inA 18 z r m k e s) 109))
 rw [show Pl.ax ⟨18,z,r,m,k,e,s⟩=(((!(z==2))&&decide (s≤1))&&(m==0)) from rfl]
 cases a0:(z==2)
 ·cases a1:decide (s≤1)
  ·go_enter func190,ntmps190
   go_wp2_with fail
   go_quiet (fail)
   go_wp2_with fail
   go_ret
   exact ⟨rB (by simp),au K0.o _⟩
  ·go_enter func190,ntmps190
   go_wp2_with fail
   go_quiet (fail)
   go_wp2_with fail
   go_ret
   exact ⟨rB (by simp),au K0.o _⟩
 ·go_enter func190,ntmps190
  go_wp2_with fail
  go_quiet (fail)
  go_wp2_with fail
  go_ret
  exact ⟨rB (by simp),au K0.o _⟩
theorem JY (w:World) (z r m k e s:Int) (h0:0≤s):Calls prog 190 #[.agg (inA 19 z r m k e s)] w fun r' w'=>r'=.returned (.bool (Pl.ax ⟨19,z,r,m,k,e,s⟩))∧Kept 0 0 w w':=by
 have K0:=hide (kept_alloc w (.cells (inA 19 z r m k e s) 109))
 rw [show Pl.ax ⟨19,z,r,m,k,e,s⟩=((z==2)&&((((s==0)&&(r==0))&&Pl.jv m e)||((s==1)&&Pl.iw m k e))) from rfl]
 cases a0:(z==2)
 ·go_enter func190,ntmps190
  go_wp2_with fail
  go_quiet (fail)
  go_wp2_with fail
  go_ret
  exact ⟨rB (by simp),au K0.o _⟩
 ·go_enter func190,ntmps190
  go_wp2_with fail
  go_quiet (fail)
  go_wp2_with (go_at_call 218;refine (BJ _ 19 z r m k e s).mono ?_;rintro e9 w2 ⟨rfl,k2⟩)
  go_ret
  exact ⟨rB (by simp [Bool.and_assoc]),(au K0.o _).trans k2⟩
theorem JX (w:World) (op z r m k e s:Int) (h:op<1∨19<op):Calls prog 190 #[.agg (inA op z r m k e s)] w fun r' w'=>r'=.returned (.bool (Pl.ax ⟨op,z,r,m,k,e,s⟩))∧Kept 0 0 w w':=by
 have K0:=hide (kept_alloc w (.cells (inA op z r m k e s) 109))
 have G:Hid (Pl.ax ⟨op,z,r,m,k,e,s⟩=false):=hide (by
  unfold Pl.ax
  simp only
  have n1:(op==1)=false:=by simp;omega
  have n2:(op==2)=false:=by simp;omega
  have n3:(op==3)=false:=by simp;omega
  have n4:(op==4)=false:=by simp;omega
  have n5:(op==5)=false:=by simp;omega
  have n6:(op==6)=false:=by simp;omega
  have n7:(op==7)=false:=by simp;omega
  have n8:(op==8)=false:=by simp;omega
  have n9:(op==9)=false:=by simp;omega
  have n10:(op==10)=false:=by simp;omega
  have n11:(op==11)=false:=by simp;omega
  have n12:(op==12)=false:=by simp;omega
  have n13:(op==13)=false:=by simp;omega
  have n14:(op==14)=false:=by simp;omega
  have n15:(op==15)=false:=by simp;omega
  have n16:(op==16)=false:=by simp;omega
  have n17:(op==17)=false:=by simp;omega
  have n18:(op==18)=false:=by simp;omega
  have n19:(op==19)=false:=by simp;omega
  rw [n1,n3,n4,n5,n6,n7,n8,n2,n9,n10,n11,n12,n13,n14,n16,n17,n18,n19,n15]
  rfl)
 go_enter func190,ntmps190
 go_wp2_with fail
 go_quiet (fail)
 go_wp2_with fail
 go_ret
 exact ⟨rB G.o.symm,au K0.o _⟩
theorem Ti (w:World) (op z r m k e s:Int) (h0:0≤s):Calls prog 190 #[.agg (inA op z r m k e s)] w fun r' w'=>r'=.returned (.bool (Pl.ax ⟨op,z,r,m,k,e,s⟩))∧Kept 0 0 w w':=by
 by_cases h:op<1∨19<op
 ·exact JX w op z r m k e s h
 ·have hs:op=1∨op=2∨op=3∨op=4∨op=5∨op=6∨op=7∨op=8∨op=9∨op=10∨op=11∨op=12∨op=13∨op=14∨op=15∨op=16∨op=17∨op=18∨op=19:=by omega
  rcases hs with rfl|rfl|rfl|rfl|rfl|rfl|rfl|rfl|rfl|rfl|rfl|rfl|rfl|rfl|rfl|rfl|rfl|rfl|rfl
  ·exact O7 w z r m k e s h0
  ·exact O6 w z r m k e s h0
  ·exact OZ w z r m k e s h0
  ·exact OY w z r m k e s h0
  ·exact OU w z r m k e s h0
  ·exact OT w z r m k e s h0
  ·exact OO w z r m k e s h0
  ·exact OM w z r m k e s h0
  ·exact OL w z r m k e s h0
  ·exact Kr w z r m k e s h0
  ·exact Kq w z r m k e s h0
  ·exact Ko w z r m k e s h0
  ·exact J9 w z r m k e s h0
  ·exact J8 w z r m k e s h0
  ·exact J7 w z r m k e s h0
  ·exact J6 w z r m k e s h0
  ·exact J3 w z r m k e s h0
  ·exact JZ w z r m k e s h0
  ·exact JY w z r m k e s h0
theorem ui (w:World) (op z r m k e s:Int) (wfop:(Lit.int .i64 op).wf=true) (wfz:(Lit.int .i64 z).wf=true) (wfr:(Lit.int .i64 r).wf=true) (wfm:(Lit.int .i64 m).wf=true) (wfk:(Lit.int .i64 k).wf=true) (wfe:(Lit.int .i64 e).wf=true) (wfs:(Lit.int .i64 s).wf=true):Calls prog 160 #[.agg (inA op z r m k e s)] w fun r' w'=>r'=.returned (.bool (Pl.dF ⟨op,z,r,m,k,e,s⟩))∧Kept 0 0 w w':=by
 have K0:=hide (kept_alloc w (.cells (inA op z r m k e s) 109))
 have B0:=hide (Blk.new w (inA op z r m k e s) 109)
 rw [Pl.ok_of_fits]
 simp only
 cases h1:Pl.fits ⟨op,z,r,m,k,e,s⟩
 ·go_enter func160,ntmps160
  go_wp2_with (go_at_call 187;refine (qB _ op z r m k e s).mono ?_;rw [h1];rintro e9 w1 ⟨rfl,k1⟩)
  go_ret
  exact ⟨rB (by simp),K0.o.trans k1⟩
 ·have h0:0≤s:=((Pl.vN _).1 h1).2.2.2.2.2.1.1
  cases h2:Pl.iT m k e
  ·go_enter func160,ntmps160
   go_wp2_with (first|(go_at_call 187;refine (qB _ op z r m k e s).mono ?_;rw [h1];rintro e9 w1 ⟨rfl,k1⟩;have B1:=hide (B0.o.af k1);have K1:=hide (K0.o.trans k1);obtain ⟨b0,b1,b2,b3,b4,b5,b6⟩:=B1.o.c7;clear k1)|(go_at_call 188;refine (kE _ m k e wfm wfk wfe).mono ?_;rw [h2];rintro e9 w2 ⟨rfl,k2⟩;have B2:=hide (B1.o.af k2);have K2:=hide (K1.o.trans k2);obtain ⟨c0,c1,c2,c3,c4,c5,c6⟩:=B2.o.c7;clear k2))
   go_ret
   exact ⟨rB (by simp),K2.o⟩
  ·cases h3:Pl.Ku ⟨op,z,r,m,k,e,s⟩
   ·go_enter func160,ntmps160
    go_wp2_with (first|(go_at_call 187;refine (qB _ op z r m k e s).mono ?_;rw [h1];rintro e9 w1 ⟨rfl,k1⟩;have B1:=hide (B0.o.af k1);have K1:=hide (K0.o.trans k1);obtain ⟨b0,b1,b2,b3,b4,b5,b6⟩:=B1.o.c7;clear k1)|(go_at_call 188;refine (kE _ m k e wfm wfk wfe).mono ?_;rw [h2];rintro e9 w2 ⟨rfl,k2⟩;have B2:=hide (B1.o.af k2);have K2:=hide (K1.o.trans k2);obtain ⟨c0,c1,c2,c3,c4,c5,c6⟩:=B2.o.c7;clear k2)|(go_at_call 189;refine (zN _ op z r m k e s wfe).mono ?_;rw [h3];rintro e9 w3 ⟨rfl,k3⟩;have B3:=hide (B2.o.af k3);have K3:=hide (K2.o.trans k3);obtain ⟨d0,d1,d2,d3,d4,d5,d6⟩:=B3.o.c7;clear k3))
    go_ret
    exact ⟨rB (by simp),K3.o⟩
   ·go_enter func160,ntmps160
    go_wp2_with (first|(go_at_call 187;refine (qB _ op z r m k e s).mono ?_;rw [h1];rintro e9 w1 ⟨rfl,k1⟩;have B1:=hide (B0.o.af k1);have K1:=hide (K0.o.trans k1);obtain ⟨b0,b1,b2,b3,b4,b5,b6⟩:=B1.o.c7;clear k1)|(go_at_call 188;refine (kE _ m k e wfm wfk wfe).mono ?_;rw [h2];rintro e9 w2 ⟨rfl,k2⟩;have B2:=hide (B1.o.af k2);have K2:=hide (K1.o.trans k2);obtain ⟨c0,c1,c2,c3,c4,c5,c6⟩:=B2.o.c7;clear k2)|(go_at_call 189;refine (zN _ op z r m k e s wfe).mono ?_;rw [h3];rintro e9 w3 ⟨rfl,k3⟩;have B3:=hide (B2.o.af k3);have K3:=hide (K2.o.trans k3);obtain ⟨d0,d1,d2,d3,d4,d5,d6⟩:=B3.o.c7;clear k3)|(go_at_call 190;refine (Ti _ op z r m k e s h0).mono ?_;rintro e9 w4 ⟨rfl,k4⟩;have B4:=hide (B3.o.af k4);have K4:=hide (K3.o.trans k4);clear k4))
    go_ret
    exact ⟨rB (by simp),K4.o⟩
def kv (p:Int × Int):Value:=.agg #[iv p.1,iv p.2]
def qH:List (Int × Int)→Nat→List MapEntry
 | [],_=>[]
 | p :: t,n=>⟨kv p,.agg #[],n⟩ :: qH t (n+1)
theorem F5 (ks:List (Int × Int)) (p:Int × Int):∀n,qH (ks++[p]) n=qH ks n++[⟨kv p,.agg #[],n+ks.length⟩]:=by
 induction ks with
 | nil=>intro n;rfl
 | cons q t ih=>intro n;simp only [List.cons_append,qH,ih,List.length_cons];rw [show n+1+t.length=n+(t.length+1) by omega]
theorem eqK (p q:Int × Int) (w:World):(Op.equal 185 (kv p) (kv q)).run prog w=.ok ((p.1==q.1)&&(p.2==q.2)) w:=by
 obtain ⟨a,b⟩:=p
 obtain ⟨c,d⟩:=q
 unfold kv
 rw [show Op.equal 185 (.agg #[iv a,iv b]) (.agg #[iv c,iv d])=Op.equalIn 10000 185 (.agg #[iv a,iv b]) (.agg #[iv c,iv d]) from rfl]
 go_simp
 by_cases h1:a=c<;>by_cases h2:b=d<;>simp [h1,h2]
theorem Tv (b:Bool) (p:Int × Int) (w:World):(Instr.checkKey b 10000 185 (kv p)).run prog w=.ok () w:=by
 obtain ⟨a,c⟩:=p
 unfold kv
 kernel_rfl
theorem VP (p:Int × Int) (w:World):∀(ks:List (Int × Int)) (n i:Nat),∃j,(Instr.findAsking 185 (kv p) (qH ks n) i).run prog w=.ok (if p∈ks then some (j,.agg #[]) else none) w:=by
 intro ks
 induction ks with
 | nil=>intro n i;exact ⟨0,rfl⟩
 | cons q t ih=>
  intro n i
  by_cases h:p=q
  ·subst h
   refine ⟨i,?_⟩
   simp [qH,Instr.findAsking,eqK,Result.andThen]
  ·obtain ⟨j,hj⟩:=ih (n+1) (i+1)
   refine ⟨j,?_⟩
   have hq:((p.1==q.1)&&(p.2==q.2))=false:=by
    obtain ⟨a,b⟩:=p;obtain ⟨c,d⟩:=q
    simp at h ⊢;exact h
   have hm:(p∈q :: t)=(p∈t):=by simp [h]
   simp only [hm]
   simp [qH,Instr.findAsking,eqK,hq,Result.andThen,hj]
theorem Tj (p:Int × Int) (d:TypeDesc) (hd:prog.underlying 185=some d) (ks:List (Int × Int)) (n:Nat):Instr.findNow d (kv p) (qH ks n) 0=some none∧ks=[]∨Instr.findNow d (kv p) (qH ks n) 0=none:=by
 cases ks with
 | nil=>exact .inl ⟨rfl,rfl⟩
 | cons q t=>
  refine .inr ?_
  unfold qH kv Instr.findNow
  cases d<;>simp [Instr.sameNow]
theorem QI (p:Int × Int) (w:World) (ks:List (Int × Int)) (n:Nat):∃j,(Instr.findKey 185 (kv p) (qH ks n)).run prog w=.ok (if p∈ks then some (j,.agg #[]) else none) w:=by
 obtain ⟨d,hd⟩:∃d,prog.underlying 185=some d:=⟨_,underlying185⟩
 rcases Tj p d hd ks n with ⟨h,rfl⟩|h
 ·exact ⟨0,by simp [Instr.findKey,run_underlying hd,h,Result.andThen]⟩
 ·obtain ⟨j,hj⟩:=VP p w ks n 0
  exact ⟨j,by simp [Instr.findKey,run_underlying hd,h,Result.andThen,hj]⟩
theorem Rx (p:Int × Int) (w:World) (g:Nat) (ks:List (Int × Int)) (hb:w.heap[g]? = some (.map (qH ks 0).toArray ks.length)) (hp:p∉ks) :
  (Instr.mapUpdate 187 (.map (some g)) (kv p) (.agg #[])).run prog w=.ok () {w with heap:=w.heap.setIfInBounds g (.map (qH (ks++[p]) 0).toArray (ks++[p]).length)}:=by
 obtain ⟨j,hj⟩:=QI p w ks 0
 rw [if_neg hp] at hj
 rw [F5]
 simp [Instr.mapUpdate,run_underlying underlying187,MapKept.run_getObj_map hb,Tv,hj,MapKept.run_setObj_map _ hb,Result.andThen]
theorem VC (p:Int × Int) (w:World) (g c:Nat) (ks:List (Int × Int)) (hb:w.heap[g]? = some (.map (qH ks 0).toArray c)) (hz:(zeroValue 186).run prog w=.ok (.agg #[]) w) :
  (Instr.lookup 187 (.map (some g)) (kv p) true).run prog w=.ok (.tuple #[.agg #[],.bool (decide (p∈ks))]) w:=by
 obtain ⟨j,hj⟩:=QI p w ks 0
 by_cases hp:p∈ks
 ·rw [if_pos hp] at hj
  simp [Instr.lookup,run_underlying underlying187,MapKept.run_getObj_map hb,Tv,hj,Result.andThen,hp]
 ·rw [if_neg hp] at hj
  simp [Instr.lookup,run_underlying underlying187,MapKept.run_getObj_map hb,Tv,hj,Result.andThen,hp,hz]
theorem vC {lo hi g:Nat} {w W:World} (h:Kept lo hi w W) (hg:w.heap.size≤g) (ob:Obj):Kept lo hi w {W with heap:=W.heap.setIfInBounds g ob}:=
 ⟨h.os,h.tape,h.output,by simpa using h.size,fun k hk hn=>by
  show (W.heap.setIfInBounds g ob)[k]? = _
  rw [Array.getElem?_setIfInBounds_ne (by omega)]
  exact h.block k hk hn⟩
def jG (l:Array Bool) (W:World) (g:Nat):Prop:=
 (l.getD 0 true=false→W.heap.size=g∧l.getD 3 true=false∧l.getD 6 true=false∧l.getD 9 true=false)∧
 (l.getD 0 true=true→∃ks:List (Int × Int),W.heap[g]? = some (.map (qH ks 0).toArray ks.length)∧∀p,p∈ks↔(l.getD 3 true=true∧p=(15,1))∨(l.getD 6 true=true∧p=(15,3))∨(l.getD 9 true=true∧p=(19,0)))
theorem jG.past {l:Array Bool} {W:World} {g i:Nat} (h:jG l W g) (h0:0≠i) (h3:3≠i) (h6:6≠i) (h9:9≠i):jG (l.setIfInBounds i true) W g:=by
 unfold jG at h ⊢
 rw [getD_set_ne h0,getD_set_ne h3,getD_set_ne h6,getD_set_ne h9]
 exact h
theorem jG.made {l:Array Bool} {W:World} {g:Nat} (h:jG l W g) (h0:l.getD 0 true=false):W.heap.size=g∧jG (l.setIfInBounds 0 true) (W.alloc (.map #[] 0)) g:=by
 obtain ⟨hs,a3,a6,a9⟩:=h.1 h0
 refine ⟨hs,fun q => ?_,fun _=>⟨[],?_,fun p => ?_⟩⟩
 ·rw [gU] at q;cases q
 ·rw [←hs];exact heap_alloc_new W _
 ·rw [getD_set_ne (by decide),getD_set_ne (by decide),getD_set_ne (by decide),a3,a6,a9]
  simp
theorem jG.map {l:Array Bool} {W:World} {g:Nat} (h:jG l W g) (h0:l.getD 0 true=true):∃ks:List (Int × Int),W.heap[g]? = some (.map (qH ks 0).toArray ks.length)∧∀p,p∈ks↔(l.getD 3 true=true∧p=(15,1))∨(l.getD 6 true=true∧p=(15,3))∨(l.getD 9 true=true∧p=(19,0)):=h.2 h0
theorem Cj {W:World} {g:Nat} {ob ob':Obj} (h:W.heap[g]? = some ob):({W with heap:=W.heap.setIfInBounds g ob'}:World).heap[g]? = some ob':=by
 show (W.heap.setIfInBounds g ob')[g]? = _
 have:g<W.heap.size:=by
  rcases Nat.lt_or_ge g W.heap.size with q|q
  ·exact q
  ·rw [Array.getElem?_eq_none q] at h;cases h
 rw [Array.getElem?_setIfInBounds]
 simp [this]
theorem jG.XM {l:Array Bool} {W:World} {g:Nat} (h:jG l W g) (h0:l.getD 0 true=true) (hi:l.getD 3 true=false):∃W2:World,(Instr.mapUpdate 187 (.map (some g)) (kv (15,1)) (.agg #[])).run prog W=.ok () W2∧jG (l.setIfInBounds 3 true) W2 g∧(∀w:World,w.heap.size≤g→Kept 0 0 w W→Kept 0 0 w W2):=by
 obtain ⟨ks,hb,hk⟩:=h.map h0
 refine ⟨_,Rx (15,1) W g ks hb (by rw [hk,hi];simp),⟨fun q => ?_,fun _=>⟨ks++[(15,1)],Cj hb,fun p => ?_⟩⟩,fun w hw k=>vC k hw _⟩
 ·rw [getD_set_ne (by decide),h0] at q;cases q
 ·rw [gU,getD_set_ne (by decide),getD_set_ne (by decide),List.mem_append,hk,hi]
  simp
  grind
theorem jG.XL {l:Array Bool} {W:World} {g:Nat} (h:jG l W g) (h0:l.getD 0 true=true) (hi:l.getD 6 true=false):∃W2:World,(Instr.mapUpdate 187 (.map (some g)) (kv (15,3)) (.agg #[])).run prog W=.ok () W2∧jG (l.setIfInBounds 6 true) W2 g∧(∀w:World,w.heap.size≤g→Kept 0 0 w W→Kept 0 0 w W2):=by
 obtain ⟨ks,hb,hk⟩:=h.map h0
 refine ⟨_,Rx (15,3) W g ks hb (by rw [hk,hi];simp),⟨fun q => ?_,fun _=>⟨ks++[(15,3)],Cj hb,fun p => ?_⟩⟩,fun w hw k=>vC k hw _⟩
 ·rw [getD_set_ne (by decide),h0] at q;cases q
 ·rw [gU,getD_set_ne (by decide),getD_set_ne (by decide),List.mem_append,hk,hi]
  simp
  grind
theorem jG.XJ {l:Array Bool} {W:World} {g:Nat} (h:jG l W g) (h0:l.getD 0 true=true) (hi:l.getD 9 true=false):∃W2:World,(Instr.mapUpdate 187 (.map (some g)) (kv (19,0)) (.agg #[])).run prog W=.ok () W2∧jG (l.setIfInBounds 9 true) W2 g∧(∀w:World,w.heap.size≤g→Kept 0 0 w W→Kept 0 0 w W2):=by
 obtain ⟨ks,hb,hk⟩:=h.map h0
 refine ⟨_,Rx (19,0) W g ks hb (by rw [hk,hi];simp),⟨fun q => ?_,fun _=>⟨ks++[(19,0)],Cj hb,fun p => ?_⟩⟩,fun w hw k=>vC k hw _⟩
 ·rw [getD_set_ne (by decide),h0] at q;cases q
 ·rw [gU,getD_set_ne (by decide),getD_set_ne (by decide),List.mem_append,hk,hi]
  simp
  grind
theorem dO (w:World) (op z r m k e s:Int):Calls prog 162 #[.agg (inA op z r m k e s)] w fun r' w'=>r'=.returned (.bool (Pl.iR ⟨op,z,r,m,k,e,s⟩))∧Kept 0 0 w w':=by
 have K0:=hide (kept_alloc w (.cells (inA op z r m k e s) 109))
 have B0:=hide (Blk.new w (inA op z r m k e s) 109)
 go_enter func162,ntmps162
 go_wp2_with fail
 refine iE (fun A0 l A W=>FR [6,7,8,9,10,11,12,13,3] A0 A∧Once l 0 (A.tmps[6]? = some (.map (some (w.heap.size+1))))∧Once l 1 (A.tmps[7]? = some (kv (15,1)))∧Once l 2 (A.tmps[8]? = some (.agg #[]))∧Once l 3 (True)∧Once l 4 (A.tmps[9]? = some (kv (15,3)))∧Once l 5 (A.tmps[10]? = some (.agg #[]))∧Once l 6 (True)∧Once l 7 (A.tmps[11]? = some (kv (19,0)))∧Once l 8 (A.tmps[12]? = some (.agg #[]))∧Once l 9 (True)∧Once l 10 (A.tmps[13]? = some (.map (some (w.heap.size+1))))∧Once l 11 (A.tmps[3]? = some (.map (some (w.heap.size+1))))∧jG l W (w.heap.size+1)∧Kept 0 0 (w.alloc (.cells (inA op z r m k e s) 109)) W) (by kernel_rfl) (by kernel_rfl) ?start ?fin ?step
 case start=>exact ⟨FR.refl _ _,az (by decide),az (by decide),az (by decide),az (by decide),az (by decide),az (by decide),az (by decide),az (by decide),az (by decide),az (by decide),az (by decide),az (by decide),⟨fun _=>⟨by simp,mM (by decide),mM (by decide),mM (by decide)⟩,fun q=>by rw [mM (by decide)] at q;cases q⟩,ae (Kept.refl _ _ _)⟩
 case fin=>
  intro l A W h hl
  obtain ⟨hFR,o0,o1,o2,o3,o4,o5,o6,o7,o8,o9,o10,o11,hM,hK⟩:=h
  have g11:=o11 (hl 11 (by decide))
  obtain ⟨ks,hb,hks⟩:=hM.map (hl 0 (by decide))
  rw [hl 3 (by decide),hl 6 (by decide),hl 9 (by decide)] at hks
  have hlk:=fun hz=>VC (op,s) W (w.heap.size+1) _ ks hb hz
  have hlk2:=hlk (by kernel_rfl)
  rw [show decide ((op,s)∈ks)=Pl.iR ⟨op,z,r,m,k,e,s⟩ from by rw [←Bool.coe_iff_coe];simp [hks,Pl.iR];grind] at hlk2
  have BX:=hide (B0.o.af hK)
  obtain ⟨x0,x1,x2,x3,x4,x5,x6⟩:=BX.o.c7
  have KQ:=hide (K0.o.trans hK)
  unfold kv at hlk2
  have HL:=hide hlk2
  have hc9:=hFR.chain
  simp only [List.foldl] at hc9
  rw [nP g11] at hc9
  clear hl hK hFR hM hb hks hlk hlk2 g11 o0 o1 o2 o3 o4 o5 o6 o7 o8 o9 o10 o11
  generalize A.tmps.getD 6 undef=s6 at hc9
  generalize A.tmps.getD 7 undef=s7 at hc9
  generalize A.tmps.getD 8 undef=s8 at hc9
  generalize A.tmps.getD 9 undef=s9 at hc9
  generalize A.tmps.getD 10 undef=s10 at hc9
  generalize A.tmps.getD 11 undef=s11 at hc9
  generalize A.tmps.getD 12 undef=s12 at hc9
  generalize A.tmps.getD 13 undef=s13 at hc9
  subst hc9
  have hlk3:=HL.o
  go_simp
  go_wp2_with fail
  go_ret
  exact ⟨rfl,ah KQ.o _⟩
 case step=>
  intro l A W i hI hm
  obtain ⟨hFR,o0,o1,o2,o3,o4,o5,o6,o7,o8,o9,o10,o11,hM,hK⟩:=hI
  obtain ⟨hi1,hi2⟩:=jL hm
  have hsz:Hid (13<A.tmps.size):=hide (by rw [hFR.size];simp)
  rcases i with _|_|_|_|_|_|_|_|_|_|_|_|i
  ·obtain ⟨hs,hM2⟩:=hM.made hi2
   have hmm:=run_makeMap (P:=prog) 187 W
   rw [hs] at hmm
   refine wpOp_step rfl (fun KK hK2 => ?_)
   go_simp
   exact hK2 (A.put (some 6) (.map (some (w.heap.size+1)))) _ ⟨hFR.put (by decide) _,.now (put_eq (by have hz:=hsz.o;omega)),o1.q,o2.q,o3.n,o4.q,o5.q,o6.n,o7.q,o8.q,o9.n,o10.q,o11.q,hM2,ah hK _⟩
  ·refine wpOp_step rfl (fun KK hK2 => ?_)
   go_simp
   exact hK2 (A.put (some 7) (.agg #[iv 15,iv 1])) _ ⟨hFR.put (by decide) _,o0.q,.now (by unfold kv;exact put_eq (by have hz:=hsz.o;omega)),o2.q,o3.n,o4.q,o5.q,o6.n,o7.q,o8.q,o9.n,o10.q,o11.q,hM.past (by decide) (by decide) (by decide) (by decide),hK⟩
  ·refine wpOp_step rfl (fun KK hK2 => ?_)
   go_simp
   exact hK2 (A.put (some 8) (.agg #[])) _ ⟨hFR.put (by decide) _,o0.q,o1.q,.now (put_eq (by have hz:=hsz.o;omega)),o3.n,o4.q,o5.q,o6.n,o7.q,o8.q,o9.n,o10.q,o11.q,hM.past (by decide) (by decide) (by decide) (by decide),hK⟩
  ·have e0:=o0 (aA hm 0 (by kernel_rfl))
   have e1:=o1 (aA hm 1 (by kernel_rfl))
   have e2:=o2 (aA hm 2 (by kernel_rfl))
   obtain ⟨W2,hu,hM2,hKK⟩:=hM.XM (aA hm 0 (by kernel_rfl)) hi2
   replace hKK:=hKK _ (by simp) hK
   unfold kv at e1 hu
   refine wpOp_step rfl (fun KK hK2 => ?_)
   go_simp
   exact hK2 A _ ⟨hFR,o0.n,o1.n,o2.n,.now trivial,o4.n,o5.n,o6.n,o7.n,o8.n,o9.n,o10.n,o11.n,hM2,hKK⟩
  ·refine wpOp_step rfl (fun KK hK2 => ?_)
   go_simp
   exact hK2 (A.put (some 9) (.agg #[iv 15,iv 3])) _ ⟨hFR.put (by decide) _,o0.q,o1.q,o2.q,o3.n,.now (by unfold kv;exact put_eq (by have hz:=hsz.o;omega)),o5.q,o6.n,o7.q,o8.q,o9.n,o10.q,o11.q,hM.past (by decide) (by decide) (by decide) (by decide),hK⟩
  ·refine wpOp_step rfl (fun KK hK2 => ?_)
   go_simp
   exact hK2 (A.put (some 10) (.agg #[])) _ ⟨hFR.put (by decide) _,o0.q,o1.q,o2.q,o3.n,o4.q,.now (put_eq (by have hz:=hsz.o;omega)),o6.n,o7.q,o8.q,o9.n,o10.q,o11.q,hM.past (by decide) (by decide) (by decide) (by decide),hK⟩
  ·have e0:=o0 (aA hm 0 (by kernel_rfl))
   have e4:=o4 (aA hm 4 (by kernel_rfl))
   have e5:=o5 (aA hm 5 (by kernel_rfl))
   obtain ⟨W2,hu,hM2,hKK⟩:=hM.XL (aA hm 0 (by kernel_rfl)) hi2
   replace hKK:=hKK _ (by simp) hK
   unfold kv at e4 hu
   refine wpOp_step rfl (fun KK hK2 => ?_)
   go_simp
   exact hK2 A _ ⟨hFR,o0.n,o1.n,o2.n,o3.n,o4.n,o5.n,.now trivial,o7.n,o8.n,o9.n,o10.n,o11.n,hM2,hKK⟩
  ·refine wpOp_step rfl (fun KK hK2 => ?_)
   go_simp
   exact hK2 (A.put (some 11) (.agg #[iv 19,iv 0])) _ ⟨hFR.put (by decide) _,o0.q,o1.q,o2.q,o3.n,o4.q,o5.q,o6.n,.now (by unfold kv;exact put_eq (by have hz:=hsz.o;omega)),o8.q,o9.n,o10.q,o11.q,hM.past (by decide) (by decide) (by decide) (by decide),hK⟩
  ·refine wpOp_step rfl (fun KK hK2 => ?_)
   go_simp
   exact hK2 (A.put (some 12) (.agg #[])) _ ⟨hFR.put (by decide) _,o0.q,o1.q,o2.q,o3.n,o4.q,o5.q,o6.n,o7.q,.now (put_eq (by have hz:=hsz.o;omega)),o9.n,o10.q,o11.q,hM.past (by decide) (by decide) (by decide) (by decide),hK⟩
  ·have e0:=o0 (aA hm 0 (by kernel_rfl))
   have e7:=o7 (aA hm 7 (by kernel_rfl))
   have e8:=o8 (aA hm 8 (by kernel_rfl))
   obtain ⟨W2,hu,hM2,hKK⟩:=hM.XJ (aA hm 0 (by kernel_rfl)) hi2
   replace hKK:=hKK _ (by simp) hK
   unfold kv at e7 hu
   refine wpOp_step rfl (fun KK hK2 => ?_)
   go_simp
   exact hK2 A _ ⟨hFR,o0.n,o1.n,o2.n,o3.n,o4.n,o5.n,o6.n,o7.n,o8.n,.now trivial,o10.n,o11.n,hM2,hKK⟩
  ·have e0:=o0 (aA hm 0 (by kernel_rfl))
   refine wpOp_step rfl (fun KK hK2 => ?_)
   go_simp
   exact hK2 (A.put (some 13) (.map (some (w.heap.size+1)))) _ ⟨hFR.put (by decide) _,o0.q,o1.q,o2.q,o3.n,o4.q,o5.q,o6.n,o7.q,o8.q,o9.n,.now (put_eq (by have hz:=hsz.o;omega)),o11.q,hM.past (by decide) (by decide) (by decide) (by decide),hK⟩
  ·have e10:=o10 (aA hm 10 (by kernel_rfl))
   refine wpOp_step rfl (fun KK hK2 => ?_)
   go_simp
   exact hK2 (A.put (some 3) (.map (some (w.heap.size+1)))) _ ⟨hFR.put (by decide) _,o0.q,o1.q,o2.q,o3.n,o4.q,o5.q,o6.n,o7.q,o8.q,o9.n,o10.q,.now (put_eq (by have hz:=hsz.o;omega)),hM.past (by decide) (by decide) (by decide) (by decide),hK⟩
  ·simp at hi1
   omega
theorem VU {n v:Int} (h:Pl.aS n=true):0≤n∧n≤65535∧(Lit.int .i64 (Pl.decode n v).m).wf=true∧(if Pl.lng (Pl.decode n v).m=true then (2:Int) else 1)=Pl.fD n:=by
 simp [Pl.aS,Pl.within] at h
 refine ⟨h.1,h.2,qU ?_ ?_,?_⟩
 ·show -1≤n/32%8;omega
 ·show n/32%8≤65536;omega
 ·show (if Pl.lng (n/32%8)=true then (2:Int) else 1)=_
  unfold Pl.lng Pl.fD
  rw [show Pl.dB (n/32%8)=true from by simp [Pl.dB,Pl.within];omega]
  rfl
theorem uh (w:World) (n:Int) (wfn:(Lit.int .i64 n).wf=true):Calls prog 118 #[iv n] w fun e' w'=>e'=.returned (.tuple #[iv (if Pl.aS n=true then Pl.fD n else 0),.bool (Pl.aS n)])∧Kept 0 0 w w':=by
 obtain ⟨lo,hi⟩:=wfB wfn
 cases h:Pl.aS n
 ·go_enter func118,ntmps118
  go_wp2_with (go_at_call 85;refine st (isWord _ _ lo hi) ?_;rw [h])
  go_ret2
  exact ⟨rfl,Kept.refl _ _ _⟩
 ·obtain ⟨n0,n1,wm,hl⟩:=VU (v:=0) h
  obtain ⟨x,hx⟩:∃x,Pl.decode n 0=x:=⟨_,rfl⟩
  rw [hx] at wm hl
  have HX:=hide hx
  have HL:=hide hl
  clear hx hl
  go_enter func118,ntmps118
  go_wp2_with (first|(go_at_call 85;refine st (isWord _ _ lo hi) ?_;rw [h])|(go_at_call 159;refine (insOf _ n 0 n0 n1).mono ?_;rw [HX.o];rintro e9 w2 ⟨rfl,k2⟩)|(go_at_call 120;refine (lengthOf _ _ _ _ _ _ _ _ wm).mono ?_;rw [HL.o];rintro e9 w3 ⟨rfl,k3⟩))
  go_ret2
  exact ⟨rfl,k2.trans k3⟩
end Go.Proofs.YtkkmnnhaailkcaaGreatDoor
