/- Part 17 of what the last text leans on. -/
import Derived.Test.YtkkmnnhaailkcaaGreatDoorJB13
import Derived.Test.YtkkmnnhaailkcaaGreatDoorJB16
import Derived.Test.YtkkmnnhaailkcaaGreatDoorJB2
set_option maxRecDepth 100000
set_option maxHeartbeats 16000000
namespace Go.Proofs.YtkkmnnhaailkcaaGreatDoor
open Go.RowKit Go.Proofs.Tryz
set_option linter.unusedVariables false
set_option linter.unusedSimpArgs false
theorem wU (v x f:Int) (t:Bool) (w:World) (h0:0≤v) (h1:v<65536) (x0:0≤x) (x1:x≤1) :
  Calls prog 247 #[.agg #[iv v,iv 16,iv x,iv f,.bool t]] w fun e w'=>e=.returned (.agg #[iv (Pl.nv 0 2 x v),iv 16,iv (Pl.nx 0 2 x v),iv (Pl.fell 0 2 v),.bool (Pl.vfl 0 2 x v)])∧Below w.heap.size w w':=by
 obtain ⟨b0,b1⟩:=Pl.dX 2 v
 have E1:Hid ((v*2%65536)=Pl.nv 0 2 x v):=hide (by simp only [Pl.nv,Pl.inn,Pl.fell,Pl.top,Int.reduceMod,Int.reduceEq,Int.reduceLE,Int.reduceDiv,if_true,if_false,or_self,or_true,true_or,or_false,false_or]<;>omega)
 have E2:Hid ((Pl.hi 2 v)=Pl.nx 0 2 x v):=hide (by simp only [Pl.nx,Pl.fell,Int.reduceMod,Int.reduceEq,if_true,if_false,or_self,or_true,true_or,or_false,false_or])
 have E3:Hid ((Pl.hi 2 v)=Pl.fell 0 2 v):=hide (by simp only [Pl.fell,Int.reduceMod,Int.reduceEq,if_true,if_false])
 have E4:Hid ((Pl.hi 2 (v*2%65536) != Pl.hi 2 v)=Pl.vfl 0 2 x v):=hide (by rw [Pl.vfl,←E1.o,Pl.nz];rfl)
 go_enter func247,ntmps247
 go_wp2_with (first|(go_at_call 255;refine (fZ _ _ _ _ _ ?h0 ?h1).mono ?_;(case h0=>omega);(case h1=>omega);rintro e w' ⟨rfl,o6,rfl⟩)|(go_at_call 267;refine (lowest _ _ _ _ _ _).mono ?_;rintro e w' ⟨rfl,o6,rfl⟩)|(go_at_call 264;refine (qA _ _ _ _ _ _ ?h0 ?h1 ?h2 ?h3).mono ?_;(case h0=>omega);(case h1=>omega);(case h2=>omega);(case h3=>omega);rintro e w' ⟨rfl,o1,o2,o3,rfl⟩)|(go_at_call 265;refine (bi _ _ _ _ _ _).mono ?_;rintro e w' ⟨rfl,o4,o5,rfl⟩))
 go_region_with (first|(go_at_call 255;refine (fZ _ _ _ _ _ ?h0 ?h1).mono ?_;(case h0=>omega);(case h1=>omega);rintro e w' ⟨rfl,o6,rfl⟩)|(go_at_call 267;refine (lowest _ _ _ _ _ _).mono ?_;rintro e w' ⟨rfl,o6,rfl⟩)|(go_at_call 264;refine (qA _ _ _ _ _ _ ?h0 ?h1 ?h2 ?h3).mono ?_;(case h0=>omega);(case h1=>omega);(case h2=>omega);(case h3=>omega);rintro e w' ⟨rfl,o1,o2,o3,rfl⟩)|(go_at_call 265;refine (bi _ _ _ _ _ _).mono ?_;rintro e w' ⟨rfl,o4,o5,rfl⟩))
 all_goals go_wp2_with fail
 all_goals
  refine bodyPost_ret (v:=.agg #[iv (v*2%65536),iv 16,iv (Pl.hi 2 v),iv (Pl.hi 2 v),.bool (Pl.hi 2 (v*2%65536) != Pl.hi 2 v)]) ?_ rfl ⟨?_,?_⟩
  ·rw [aX rfl];go_simp
  ·exact rA E1.o rfl E2.o E3.o E4.o
  ·(repeat' (first|with_reducible exact Below.refl _ _|with_reducible refine Below.drew ?_|with_reducible refine Below.alloc ?_ ?_ _|(simp;done)|(simp;omega)))
theorem uz (v x f:Int) (t:Bool) (w:World) (h0:0≤v) (h1:v<65536) (x0:0≤x) (x1:x≤1) :
  Calls prog 248 #[.agg #[iv v,iv 16,iv x,iv f,.bool t]] w fun e w'=>e=.returned (.agg #[iv (Pl.nv 1 2 x v),iv 16,iv (Pl.nx 1 2 x v),iv (Pl.fell 1 2 v),.bool t])∧Below w.heap.size w w':=by
 obtain ⟨b0,b1⟩:=Pl.dX 2 v
 have E1:Hid ((v/2+Pl.hi 2 v*32768)=Pl.nv 1 2 x v):=hide (by simp only [Pl.nv,Pl.inn,Pl.fell,Pl.top,Int.reduceMod,Int.reduceEq,Int.reduceLE,Int.reduceDiv,if_true,if_false,or_self,or_true,true_or,or_false,false_or]<;>omega)
 have E2:Hid ((v%2)=Pl.nx 1 2 x v):=hide (by simp only [Pl.nx,Pl.fell,Int.reduceMod,Int.reduceEq,if_true,if_false,or_self,or_true,true_or,or_false,false_or])
 have E3:Hid ((v%2)=Pl.fell 1 2 v):=hide (by simp only [Pl.fell,Int.reduceMod,Int.reduceEq,if_true,if_false])
 go_enter func248,ntmps248
 go_wp2_with (first|(go_at_call 255;refine (fZ _ _ _ _ _ ?h0 ?h1).mono ?_;(case h0=>omega);(case h1=>omega);rintro e w' ⟨rfl,o6,rfl⟩)|(go_at_call 267;refine (lowest _ _ _ _ _ _).mono ?_;rintro e w' ⟨rfl,o6,rfl⟩)|(go_at_call 266;refine (kT _ _ _ _ _ _ ?h0 ?h1 ?h2 ?h3).mono ?_;(case h0=>omega);(case h1=>omega);(case h2=>omega);(case h3=>omega);rintro e w' ⟨rfl,o1,o2,o3,rfl⟩)|(go_at_call 265;refine (bi _ _ _ _ _ _).mono ?_;rintro e w' ⟨rfl,o4,o5,rfl⟩))
 go_region_with (first|(go_at_call 255;refine (fZ _ _ _ _ _ ?h0 ?h1).mono ?_;(case h0=>omega);(case h1=>omega);rintro e w' ⟨rfl,o6,rfl⟩)|(go_at_call 267;refine (lowest _ _ _ _ _ _).mono ?_;rintro e w' ⟨rfl,o6,rfl⟩)|(go_at_call 266;refine (kT _ _ _ _ _ _ ?h0 ?h1 ?h2 ?h3).mono ?_;(case h0=>omega);(case h1=>omega);(case h2=>omega);(case h3=>omega);rintro e w' ⟨rfl,o1,o2,o3,rfl⟩)|(go_at_call 265;refine (bi _ _ _ _ _ _).mono ?_;rintro e w' ⟨rfl,o4,o5,rfl⟩))
 all_goals go_wp2_with fail
 all_goals
  refine bodyPost_ret (v:=.agg #[iv (v/2+Pl.hi 2 v*32768),iv 16,iv (v%2),iv (v%2),.bool t]) ?_ rfl ⟨?_,?_⟩
  ·rw [aX rfl];go_simp
  ·exact rA E1.o rfl E2.o E3.o rfl
  ·(repeat' (first|with_reducible exact Below.refl _ _|with_reducible refine Below.drew ?_|with_reducible refine Below.alloc ?_ ?_ _|(simp;done)|(simp;omega)))
theorem Iu (v x f:Int) (t:Bool) (w:World) (h0:0≤v) (h1:v<65536) (x0:0≤x) (x1:x≤1) :
  Calls prog 249 #[.agg #[iv v,iv 16,iv x,iv f,.bool t]] w fun e w'=>e=.returned (.agg #[iv (Pl.nv 2 2 x v),iv 16,iv (Pl.nx 2 2 x v),iv (Pl.fell 2 2 v),.bool t])∧Below w.heap.size w w':=by
 obtain ⟨b0,b1⟩:=Pl.dX 2 v
 have E1:Hid ((v*2%65536)=Pl.nv 2 2 x v):=hide (by simp only [Pl.nv,Pl.inn,Pl.fell,Pl.top,Int.reduceMod,Int.reduceEq,Int.reduceLE,Int.reduceDiv,if_true,if_false,or_self,or_true,true_or,or_false,false_or]<;>omega)
 have E2:Hid ((Pl.hi 2 v)=Pl.nx 2 2 x v):=hide (by simp only [Pl.nx,Pl.fell,Int.reduceMod,Int.reduceEq,if_true,if_false,or_self,or_true,true_or,or_false,false_or])
 have E3:Hid ((Pl.hi 2 v)=Pl.fell 2 2 v):=hide (by simp only [Pl.fell,Int.reduceMod,Int.reduceEq,if_true,if_false])
 go_enter func249,ntmps249
 go_wp2_with (first|(go_at_call 255;refine (fZ _ _ _ _ _ ?h0 ?h1).mono ?_;(case h0=>omega);(case h1=>omega);rintro e w' ⟨rfl,o6,rfl⟩)|(go_at_call 267;refine (lowest _ _ _ _ _ _).mono ?_;rintro e w' ⟨rfl,o6,rfl⟩)|(go_at_call 264;refine (qA _ _ _ _ _ _ ?h0 ?h1 ?h2 ?h3).mono ?_;(case h0=>omega);(case h1=>omega);(case h2=>omega);(case h3=>omega);rintro e w' ⟨rfl,o1,o2,o3,rfl⟩)|(go_at_call 265;refine (bi _ _ _ _ _ _).mono ?_;rintro e w' ⟨rfl,o4,o5,rfl⟩))
 all_goals
  refine bodyPost_ret (v:=.agg #[iv (v*2%65536),iv 16,iv (Pl.hi 2 v),iv (Pl.hi 2 v),.bool t]) ?_ rfl ⟨?_,?_⟩
  ·rw [aX rfl];go_simp
  ·exact rA E1.o rfl E2.o E3.o rfl
  ·(repeat' (first|with_reducible exact Below.refl _ _|with_reducible refine Below.drew ?_|with_reducible refine Below.alloc ?_ ?_ _|(simp;done)|(simp;omega)))
theorem Bi (v x f:Int) (t:Bool) (w:World) (h0:0≤v) (h1:v<65536) (x0:0≤x) (x1:x≤1) :
  Calls prog 250 #[.agg #[iv v,iv 16,iv x,iv f,.bool t]] w fun e w'=>e=.returned (.agg #[iv (Pl.nv 3 2 x v),iv 16,iv (Pl.nx 3 2 x v),iv (Pl.fell 3 2 v),.bool t])∧Below w.heap.size w w':=by
 obtain ⟨b0,b1⟩:=Pl.dX 2 v
 have E1:Hid ((v/2)=Pl.nv 3 2 x v):=hide (by simp only [Pl.nv,Pl.inn,Pl.fell,Pl.top,Int.reduceMod,Int.reduceEq,Int.reduceLE,Int.reduceDiv,if_true,if_false,or_self,or_true,true_or,or_false,false_or]<;>omega)
 have E2:Hid ((v%2)=Pl.nx 3 2 x v):=hide (by simp only [Pl.nx,Pl.fell,Int.reduceMod,Int.reduceEq,if_true,if_false,or_self,or_true,true_or,or_false,false_or])
 have E3:Hid ((v%2)=Pl.fell 3 2 v):=hide (by simp only [Pl.fell,Int.reduceMod,Int.reduceEq,if_true,if_false])
 go_enter func250,ntmps250
 go_wp2_with (first|(go_at_call 255;refine (fZ _ _ _ _ _ ?h0 ?h1).mono ?_;(case h0=>omega);(case h1=>omega);rintro e w' ⟨rfl,o6,rfl⟩)|(go_at_call 267;refine (lowest _ _ _ _ _ _).mono ?_;rintro e w' ⟨rfl,o6,rfl⟩)|(go_at_call 266;refine (kT _ _ _ _ _ _ ?h0 ?h1 ?h2 ?h3).mono ?_;(case h0=>omega);(case h1=>omega);(case h2=>omega);(case h3=>omega);rintro e w' ⟨rfl,o1,o2,o3,rfl⟩)|(go_at_call 265;refine (bi _ _ _ _ _ _).mono ?_;rintro e w' ⟨rfl,o4,o5,rfl⟩))
 all_goals
  refine bodyPost_ret (v:=.agg #[iv (v/2),iv 16,iv (v%2),iv (v%2),.bool t]) ?_ rfl ⟨?_,?_⟩
  ·rw [aX rfl];go_simp
  ·exact rA E1.o rfl E2.o E3.o rfl
  ·(repeat' (first|with_reducible exact Below.refl _ _|with_reducible refine Below.drew ?_|with_reducible refine Below.alloc ?_ ?_ _|(simp;done)|(simp;omega)))
theorem Nu (v x f:Int) (t:Bool) (w:World) (h0:0≤v) (h1:v<65536) (x0:0≤x) (x1:x≤1) :
  Calls prog 251 #[.agg #[iv v,iv 16,iv x,iv f,.bool t]] w fun e w'=>e=.returned (.agg #[iv (Pl.nv 4 2 x v),iv 16,iv (Pl.nx 4 2 x v),iv (Pl.fell 4 2 v),.bool t])∧Below w.heap.size w w':=by
 obtain ⟨b0,b1⟩:=Pl.dX 2 v
 have E1:Hid ((v*2%65536+Pl.hi 2 v)=Pl.nv 4 2 x v):=hide (by simp only [Pl.nv,Pl.inn,Pl.fell,Pl.top,Int.reduceMod,Int.reduceEq,Int.reduceLE,Int.reduceDiv,if_true,if_false,or_self,or_true,true_or,or_false,false_or]<;>omega)
 have E2:Hid (x=Pl.nx 4 2 x v):=hide (by simp only [Pl.nx,Pl.fell,Int.reduceMod,Int.reduceEq,if_true,if_false,or_self,or_true,true_or,or_false,false_or])
 have E3:Hid ((Pl.hi 2 v)=Pl.fell 4 2 v):=hide (by simp only [Pl.fell,Int.reduceMod,Int.reduceEq,if_true,if_false])
 go_enter func251,ntmps251
 go_wp2_with (first|(go_at_call 255;refine (fZ _ _ _ _ _ ?h0 ?h1).mono ?_;(case h0=>omega);(case h1=>omega);rintro e w' ⟨rfl,o6,rfl⟩)|(go_at_call 267;refine (lowest _ _ _ _ _ _).mono ?_;rintro e w' ⟨rfl,o6,rfl⟩)|(go_at_call 264;refine (qA _ _ _ _ _ _ ?h0 ?h1 ?h2 ?h3).mono ?_;(case h0=>omega);(case h1=>omega);(case h2=>omega);(case h3=>omega);rintro e w' ⟨rfl,o1,o2,o3,rfl⟩)|(go_at_call 265;refine (bi _ _ _ _ _ _).mono ?_;rintro e w' ⟨rfl,o4,o5,rfl⟩))
 go_region_with (first|(go_at_call 255;refine (fZ _ _ _ _ _ ?h0 ?h1).mono ?_;(case h0=>omega);(case h1=>omega);rintro e w' ⟨rfl,o6,rfl⟩)|(go_at_call 267;refine (lowest _ _ _ _ _ _).mono ?_;rintro e w' ⟨rfl,o6,rfl⟩)|(go_at_call 264;refine (qA _ _ _ _ _ _ ?h0 ?h1 ?h2 ?h3).mono ?_;(case h0=>omega);(case h1=>omega);(case h2=>omega);(case h3=>omega);rintro e w' ⟨rfl,o1,o2,o3,rfl⟩)|(go_at_call 265;refine (bi _ _ _ _ _ _).mono ?_;rintro e w' ⟨rfl,o4,o5,rfl⟩))
 all_goals go_wp2_with fail
 all_goals
  refine bodyPost_ret (v:=.agg #[iv (v*2%65536+Pl.hi 2 v),iv 16,iv x,iv (Pl.hi 2 v),.bool t]) ?_ rfl ⟨?_,?_⟩
  ·rw [aX rfl];go_simp
  ·exact rA E1.o rfl E2.o E3.o rfl
  ·(repeat' (first|with_reducible exact Below.refl _ _|with_reducible refine Below.drew ?_|with_reducible refine Below.alloc ?_ ?_ _|(simp;done)|(simp;omega)))
theorem EG (v x f:Int) (t:Bool) (w:World) (h0:0≤v) (h1:v<65536) (x0:0≤x) (x1:x≤1) :
  Calls prog 252 #[.agg #[iv v,iv 16,iv x,iv f,.bool t]] w fun e w'=>e=.returned (.agg #[iv (Pl.nv 5 2 x v),iv 16,iv (Pl.nx 5 2 x v),iv (Pl.fell 5 2 v),.bool t])∧Below w.heap.size w w':=by
 obtain ⟨b0,b1⟩:=Pl.dX 2 v
 have E1:Hid ((v/2+v%2*32768)=Pl.nv 5 2 x v):=hide (by simp only [Pl.nv,Pl.inn,Pl.fell,Pl.top,Int.reduceMod,Int.reduceEq,Int.reduceLE,Int.reduceDiv,if_true,if_false,or_self,or_true,true_or,or_false,false_or]<;>omega)
 have E2:Hid (x=Pl.nx 5 2 x v):=hide (by simp only [Pl.nx,Pl.fell,Int.reduceMod,Int.reduceEq,if_true,if_false,or_self,or_true,true_or,or_false,false_or])
 have E3:Hid ((v%2)=Pl.fell 5 2 v):=hide (by simp only [Pl.fell,Int.reduceMod,Int.reduceEq,if_true,if_false])
 go_enter func252,ntmps252
 go_wp2_with (first|(go_at_call 255;refine (fZ _ _ _ _ _ ?h0 ?h1).mono ?_;(case h0=>omega);(case h1=>omega);rintro e w' ⟨rfl,o6,rfl⟩)|(go_at_call 267;refine (lowest _ _ _ _ _ _).mono ?_;rintro e w' ⟨rfl,o6,rfl⟩)|(go_at_call 266;refine (kT _ _ _ _ _ _ ?h0 ?h1 ?h2 ?h3).mono ?_;(case h0=>omega);(case h1=>omega);(case h2=>omega);(case h3=>omega);rintro e w' ⟨rfl,o1,o2,o3,rfl⟩)|(go_at_call 265;refine (bi _ _ _ _ _ _).mono ?_;rintro e w' ⟨rfl,o4,o5,rfl⟩))
 go_region_with (first|(go_at_call 255;refine (fZ _ _ _ _ _ ?h0 ?h1).mono ?_;(case h0=>omega);(case h1=>omega);rintro e w' ⟨rfl,o6,rfl⟩)|(go_at_call 267;refine (lowest _ _ _ _ _ _).mono ?_;rintro e w' ⟨rfl,o6,rfl⟩)|(go_at_call 266;refine (kT _ _ _ _ _ _ ?h0 ?h1 ?h2 ?h3).mono ?_;(case h0=>omega);(case h1=>omega);(case h2=>omega);(case h3=>omega);rintro e w' ⟨rfl,o1,o2,o3,rfl⟩)|(go_at_call 265;refine (bi _ _ _ _ _ _).mono ?_;rintro e w' ⟨rfl,o4,o5,rfl⟩))
 all_goals go_wp2_with fail
 all_goals
  refine bodyPost_ret (v:=.agg #[iv (v/2+v%2*32768),iv 16,iv x,iv (v%2),.bool t]) ?_ rfl ⟨?_,?_⟩
  ·rw [aX rfl];go_simp
  ·exact rA E1.o rfl E2.o E3.o rfl
  ·(repeat' (first|with_reducible exact Below.refl _ _|with_reducible refine Below.drew ?_|with_reducible refine Below.alloc ?_ ?_ _|(simp;done)|(simp;omega)))
theorem oQ (v x f:Int) (t:Bool) (w:World) (h0:0≤v) (h1:v<65536) (x0:0≤x) (x1:x≤1) :
  Calls prog 253 #[.agg #[iv v,iv 16,iv x,iv f,.bool t]] w fun e w'=>e=.returned (.agg #[iv (Pl.nv 6 2 x v),iv 16,iv (Pl.nx 6 2 x v),iv (Pl.fell 6 2 v),.bool t])∧Below w.heap.size w w':=by
 obtain ⟨b0,b1⟩:=Pl.dX 2 v
 have E1:Hid ((v*2%65536+x)=Pl.nv 6 2 x v):=hide (by simp only [Pl.nv,Pl.inn,Pl.fell,Pl.top,Int.reduceMod,Int.reduceEq,Int.reduceLE,Int.reduceDiv,if_true,if_false,or_self,or_true,true_or,or_false,false_or]<;>omega)
 have E2:Hid ((Pl.hi 2 v)=Pl.nx 6 2 x v):=hide (by simp only [Pl.nx,Pl.fell,Int.reduceMod,Int.reduceEq,if_true,if_false,or_self,or_true,true_or,or_false,false_or])
 have E3:Hid ((Pl.hi 2 v)=Pl.fell 6 2 v):=hide (by simp only [Pl.fell,Int.reduceMod,Int.reduceEq,if_true,if_false])
 go_enter func253,ntmps253
 go_wp2_with (first|(go_at_call 255;refine (fZ _ _ _ _ _ ?h0 ?h1).mono ?_;(case h0=>omega);(case h1=>omega);rintro e w' ⟨rfl,o6,rfl⟩)|(go_at_call 267;refine (lowest _ _ _ _ _ _).mono ?_;rintro e w' ⟨rfl,o6,rfl⟩)|(go_at_call 264;refine (qA _ _ _ _ _ _ ?h0 ?h1 ?h2 ?h3).mono ?_;(case h0=>omega);(case h1=>omega);(case h2=>omega);(case h3=>omega);rintro e w' ⟨rfl,o1,o2,o3,rfl⟩)|(go_at_call 265;refine (bi _ _ _ _ _ _).mono ?_;rintro e w' ⟨rfl,o4,o5,rfl⟩))
 all_goals
  refine bodyPost_ret (v:=.agg #[iv (v*2%65536+x),iv 16,iv (Pl.hi 2 v),iv (Pl.hi 2 v),.bool t]) ?_ rfl ⟨?_,?_⟩
  ·rw [aX rfl];go_simp
  ·exact rA E1.o rfl E2.o E3.o rfl
  ·(repeat' (first|with_reducible exact Below.refl _ _|with_reducible refine Below.drew ?_|with_reducible refine Below.alloc ?_ ?_ _|(simp;done)|(simp;omega)))
theorem nK (v x f:Int) (t:Bool) (w:World) (h0:0≤v) (h1:v<65536) (x0:0≤x) (x1:x≤1) :
  Calls prog 254 #[.agg #[iv v,iv 16,iv x,iv f,.bool t]] w fun e w'=>e=.returned (.agg #[iv (Pl.nv 7 2 x v),iv 16,iv (Pl.nx 7 2 x v),iv (Pl.fell 7 2 v),.bool t])∧Below w.heap.size w w':=by
 obtain ⟨b0,b1⟩:=Pl.dX 2 v
 have E1:Hid ((v/2+x*32768)=Pl.nv 7 2 x v):=hide (by simp only [Pl.nv,Pl.inn,Pl.fell,Pl.top,Int.reduceMod,Int.reduceEq,Int.reduceLE,Int.reduceDiv,if_true,if_false,or_self,or_true,true_or,or_false,false_or]<;>omega)
 have E2:Hid ((v%2)=Pl.nx 7 2 x v):=hide (by simp only [Pl.nx,Pl.fell,Int.reduceMod,Int.reduceEq,if_true,if_false,or_self,or_true,true_or,or_false,false_or])
 have E3:Hid ((v%2)=Pl.fell 7 2 v):=hide (by simp only [Pl.fell,Int.reduceMod,Int.reduceEq,if_true,if_false])
 go_enter func254,ntmps254
 go_wp2_with (first|(go_at_call 255;refine (fZ _ _ _ _ _ ?h0 ?h1).mono ?_;(case h0=>omega);(case h1=>omega);rintro e w' ⟨rfl,o6,rfl⟩)|(go_at_call 267;refine (lowest _ _ _ _ _ _).mono ?_;rintro e w' ⟨rfl,o6,rfl⟩)|(go_at_call 266;refine (kT _ _ _ _ _ _ ?h0 ?h1 ?h2 ?h3).mono ?_;(case h0=>omega);(case h1=>omega);(case h2=>omega);(case h3=>omega);rintro e w' ⟨rfl,o1,o2,o3,rfl⟩)|(go_at_call 265;refine (bi _ _ _ _ _ _).mono ?_;rintro e w' ⟨rfl,o4,o5,rfl⟩))
 all_goals
  refine bodyPost_ret (v:=.agg #[iv (v/2+x*32768),iv 16,iv (v%2),iv (v%2),.bool t]) ?_ rfl ⟨?_,?_⟩
  ·rw [aX rfl];go_simp
  ·exact rA E1.o rfl E2.o E3.o rfl
  ·(repeat' (first|with_reducible exact Below.refl _ _|with_reducible refine Below.drew ?_|with_reducible refine Below.alloc ?_ ?_ _|(simp;done)|(simp;omega)))
set_option linter.unusedSimpArgs false
theorem yU (s v x f W:Int) (t:Bool) (w:World) (h:Pl.Fit s (v,x)) (hW:W=8*s) :
  Calls prog 247 #[.agg #[iv v,iv W,iv x,iv f,.bool t]] w fun e w'=>e=.returned (.agg #[iv (Pl.nv 0 s x v),iv W,iv (Pl.nx 0 s x v),iv (Pl.fell 0 s v),.bool (Pl.vfl 0 s x v)])∧Below w.heap.size w w':=by
 obtain ⟨hs,v0,v1,x0,x1⟩:=h
 simp only at v0 v1 x0 x1
 subst hW
 rcases Pl.og hs with ⟨rfl,e⟩|⟨rfl,e⟩<;>rw [e] at v1
 ·exact wV v x f t w v0 v1 x0 x1
 ·exact wU v x f t w v0 v1 x0 x1
theorem wH (s v x f W:Int) (t:Bool) (w:World) (h:Pl.Fit s (v,x)) (hW:W=8*s) :
  Calls prog 248 #[.agg #[iv v,iv W,iv x,iv f,.bool t]] w fun e w'=>e=.returned (.agg #[iv (Pl.nv 1 s x v),iv W,iv (Pl.nx 1 s x v),iv (Pl.fell 1 s v),.bool t])∧Below w.heap.size w w':=by
 obtain ⟨hs,v0,v1,x0,x1⟩:=h
 simp only at v0 v1 x0 x1
 subst hW
 rcases Pl.og hs with ⟨rfl,e⟩|⟨rfl,e⟩<;>rw [e] at v1
 ·exact uA v x f t w v0 v1 x0 x1
 ·exact uz v x f t w v0 v1 x0 x1
theorem Ob (s v x f W:Int) (t:Bool) (w:World) (h:Pl.Fit s (v,x)) (hW:W=8*s) :
  Calls prog 249 #[.agg #[iv v,iv W,iv x,iv f,.bool t]] w fun e w'=>e=.returned (.agg #[iv (Pl.nv 2 s x v),iv W,iv (Pl.nx 2 s x v),iv (Pl.fell 2 s v),.bool t])∧Below w.heap.size w w':=by
 obtain ⟨hs,v0,v1,x0,x1⟩:=h
 simp only at v0 v1 x0 x1
 subst hW
 rcases Pl.og hs with ⟨rfl,e⟩|⟨rfl,e⟩<;>rw [e] at v1
 ·exact Iw v x f t w v0 v1 x0 x1
 ·exact Iu v x f t w v0 v1 x0 x1
theorem EZ (s v x f W:Int) (t:Bool) (w:World) (h:Pl.Fit s (v,x)) (hW:W=8*s) :
  Calls prog 250 #[.agg #[iv v,iv W,iv x,iv f,.bool t]] w fun e w'=>e=.returned (.agg #[iv (Pl.nv 3 s x v),iv W,iv (Pl.nx 3 s x v),iv (Pl.fell 3 s v),.bool t])∧Below w.heap.size w w':=by
 obtain ⟨hs,v0,v1,x0,x1⟩:=h
 simp only at v0 v1 x0 x1
 subst hW
 rcases Pl.og hs with ⟨rfl,e⟩|⟨rfl,e⟩<;>rw [e] at v1
 ·exact Bj v x f t w v0 v1 x0 x1
 ·exact Bi v x f t w v0 v1 x0 x1
theorem RN (s v x f W:Int) (t:Bool) (w:World) (h:Pl.Fit s (v,x)) (hW:W=8*s) :
  Calls prog 251 #[.agg #[iv v,iv W,iv x,iv f,.bool t]] w fun e w'=>e=.returned (.agg #[iv (Pl.nv 4 s x v),iv W,iv (Pl.nx 4 s x v),iv (Pl.fell 4 s v),.bool t])∧Below w.heap.size w w':=by
 obtain ⟨hs,v0,v1,x0,x1⟩:=h
 simp only at v0 v1 x0 x1
 subst hW
 rcases Pl.og hs with ⟨rfl,e⟩|⟨rfl,e⟩<;>rw [e] at v1
 ·exact Nv v x f t w v0 v1 x0 x1
 ·exact Nu v x f t w v0 v1 x0 x1
theorem Hg (s v x f W:Int) (t:Bool) (w:World) (h:Pl.Fit s (v,x)) (hW:W=8*s) :
  Calls prog 252 #[.agg #[iv v,iv W,iv x,iv f,.bool t]] w fun e w'=>e=.returned (.agg #[iv (Pl.nv 5 s x v),iv W,iv (Pl.nx 5 s x v),iv (Pl.fell 5 s v),.bool t])∧Below w.heap.size w w':=by
 obtain ⟨hs,v0,v1,x0,x1⟩:=h
 simp only at v0 v1 x0 x1
 subst hW
 rcases Pl.og hs with ⟨rfl,e⟩|⟨rfl,e⟩<;>rw [e] at v1
 ·exact EJ v x f t w v0 v1 x0 x1
 ·exact EG v x f t w v0 v1 x0 x1
theorem qJ (s v x f W:Int) (t:Bool) (w:World) (h:Pl.Fit s (v,x)) (hW:W=8*s) :
  Calls prog 253 #[.agg #[iv v,iv W,iv x,iv f,.bool t]] w fun e w'=>e=.returned (.agg #[iv (Pl.nv 6 s x v),iv W,iv (Pl.nx 6 s x v),iv (Pl.fell 6 s v),.bool t])∧Below w.heap.size w w':=by
 obtain ⟨hs,v0,v1,x0,x1⟩:=h
 simp only at v0 v1 x0 x1
 subst hW
 rcases Pl.og hs with ⟨rfl,e⟩|⟨rfl,e⟩<;>rw [e] at v1
 ·exact oU v x f t w v0 v1 x0 x1
 ·exact oQ v x f t w v0 v1 x0 x1
theorem oz (s v x f W:Int) (t:Bool) (w:World) (h:Pl.Fit s (v,x)) (hW:W=8*s) :
  Calls prog 254 #[.agg #[iv v,iv W,iv x,iv f,.bool t]] w fun e w'=>e=.returned (.agg #[iv (Pl.nv 7 s x v),iv W,iv (Pl.nx 7 s x v),iv (Pl.fell 7 s v),.bool t])∧Below w.heap.size w w':=by
 obtain ⟨hs,v0,v1,x0,x1⟩:=h
 simp only at v0 v1 x0 x1
 subst hW
 rcases Pl.og hs with ⟨rfl,e⟩|⟨rfl,e⟩<;>rw [e] at v1
 ·exact nM v x f t w v0 v1 x0 x1
 ·exact nK v x f t w v0 v1 x0 x1
theorem Ti (s v x f W:Int) (t:Bool) (w:World) (h:Pl.Fit s (v,x)) (hW:W=8*s) :
  Calls prog 229 #[.agg #[iv v,iv W,iv x,iv f,.bool t],iv 0] w fun e w'=>e=.returned (.agg #[iv (Pl.nv 0 s x v),iv W,iv (Pl.nx 0 s x v),iv (Pl.fell 0 s v),.bool (Pl.vfl 0 s x v)])∧Below w.heap.size w w':=by
 have hst:=iJ
 have E4:Hid (Pl.vfl 0 s x v=Pl.vfl 0 s x v):=hide (by rfl)
 have HF:=hide h
 have HWW:=hide hW
 clear h hW
 go_enter func229,ntmps229
 go_wp2_with fail
 clear hst
 obtain ⟨X,hX⟩:∃X:World,X=(((w.alloc (.cells #[iv v,iv W,iv x,iv f,.bool t] 219)).alloc (.cells ftZ 219)).alloc (.cells #[.func (.func 247) #[] #[],.func (.func 248) #[] #[],.func (.func 249) #[] #[],.func (.func 250) #[] #[],.func (.func 251) #[] #[],.func (.func 252) #[] #[],.func (.func 253) #[] #[],.func (.func 254) #[] #[]] 238)):=⟨_,rfl⟩
 rw [←hX]
 have B1:Box X w.heap.size v W x f t:=by rw [hX];exact Box.zC _ _ _ _ _ _ _ _
 have B2:Box X (w.heap.size+1) 0 0 0 0 false:=by rw [hX];exact Box.zB _ _ _ _ _ _ _ _
 have hF:X.cell? ⟨w.heap.size+1+1,0,none⟩=some (.func (.func 247) #[] #[]):=by rw [hX];go_simp
 have HX:Hid (Below w.heap.size w X):=hide (by rw [hX];exact (((Below.refl _ _).alloc (by simp) _).alloc (by simp) _).alloc (by simp<;>omega) _)
 clear hX
 obtain ⟨a0,a1,a2,a3,a4,_,_,_,_,_⟩:=B1.cells
 have HB2:=hide B2
 clear B1 B2
 go_region_with (go_at_call 247;refine (yU s v x f W t _ HF.o HWW.o).mono ?_;rintro e wt ⟨rfl,hb0⟩;have hb:=oP hb0;clear hb0;have HBt:=hide (HB2.o.later hb);obtain ⟨c0,c1,c2,c3,c4,g0,g1,g2,g3,g4⟩:=HBt.o.cells;have HB:=hide hb;clear hb a0 a1 a2 a3 a4 hF)
 all_goals
  go_wp2_with fail
  refine bodyPost_ret (v:=.agg #[iv (Pl.nv 0 s x v),iv W,iv (Pl.nx 0 s x v),iv (Pl.fell 0 s v),.bool (Pl.vfl 0 s x v)]) ?_ rfl ⟨?_,?_⟩
  ·exact gW rfl _ rfl (HBt.o.set)
  ·exact rA rfl rfl rfl rfl rfl
  ·exact (((((HX.o.trans (HB.o.mono HX.o.size)).setCell (by simp) _).setCell (by simp) _).setCell (by simp) _).setCell (by simp) _).setCell (by simp) _
theorem Tf (s v x f W:Int) (w:World) (h:Pl.Fit s (v,x)) (hW:W=8*s) :
  Calls prog 229 #[.agg #[iv v,iv W,iv x,iv f,.bool false],iv 1] w fun e w'=>e=.returned (.agg #[iv (Pl.nv 1 s x v),iv W,iv (Pl.nx 1 s x v),iv (Pl.fell 1 s v),.bool (Pl.vfl 1 s x v)])∧Below w.heap.size w w':=by
 have hst:=iJ
 have E4:Hid (false=Pl.vfl 1 s x v):=hide (by simp [Pl.vfl])
 have HF:=hide h
 have HWW:=hide hW
 clear h hW
 go_enter func229,ntmps229
 go_wp2_with fail
 clear hst
 obtain ⟨X,hX⟩:∃X:World,X=(((w.alloc (.cells #[iv v,iv W,iv x,iv f,.bool false] 219)).alloc (.cells ftZ 219)).alloc (.cells #[.func (.func 247) #[] #[],.func (.func 248) #[] #[],.func (.func 249) #[] #[],.func (.func 250) #[] #[],.func (.func 251) #[] #[],.func (.func 252) #[] #[],.func (.func 253) #[] #[],.func (.func 254) #[] #[]] 238)):=⟨_,rfl⟩
 rw [←hX]
 have B1:Box X w.heap.size v W x f false:=by rw [hX];exact Box.zC _ _ _ _ _ _ _ _
 have B2:Box X (w.heap.size+1) 0 0 0 0 false:=by rw [hX];exact Box.zB _ _ _ _ _ _ _ _
 have hF:X.cell? ⟨w.heap.size+1+1,1,none⟩=some (.func (.func 248) #[] #[]):=by rw [hX];go_simp
 have HX:Hid (Below w.heap.size w X):=hide (by rw [hX];exact (((Below.refl _ _).alloc (by simp) _).alloc (by simp) _).alloc (by simp<;>omega) _)
 clear hX
 obtain ⟨a0,a1,a2,a3,a4,_,_,_,_,_⟩:=B1.cells
 have HB2:=hide B2
 clear B1 B2
 go_region_with (go_at_call 248;refine (wH s v x f W false _ HF.o HWW.o).mono ?_;rintro e wt ⟨rfl,hb0⟩;have hb:=oP hb0;clear hb0;have HBt:=hide (HB2.o.later hb);obtain ⟨c0,c1,c2,c3,c4,g0,g1,g2,g3,g4⟩:=HBt.o.cells;have HB:=hide hb;clear hb a0 a1 a2 a3 a4 hF)
 all_goals
  go_wp2_with fail
  refine bodyPost_ret (v:=.agg #[iv (Pl.nv 1 s x v),iv W,iv (Pl.nx 1 s x v),iv (Pl.fell 1 s v),.bool false]) ?_ rfl ⟨?_,?_⟩
  ·exact gW rfl _ rfl (HBt.o.set)
  ·exact rA rfl rfl rfl rfl E4.o
  ·exact (((((HX.o.trans (HB.o.mono HX.o.size)).setCell (by simp) _).setCell (by simp) _).setCell (by simp) _).setCell (by simp) _).setCell (by simp) _
theorem Td (s v x f W:Int) (w:World) (h:Pl.Fit s (v,x)) (hW:W=8*s) :
  Calls prog 229 #[.agg #[iv v,iv W,iv x,iv f,.bool false],iv 2] w fun e w'=>e=.returned (.agg #[iv (Pl.nv 2 s x v),iv W,iv (Pl.nx 2 s x v),iv (Pl.fell 2 s v),.bool (Pl.vfl 2 s x v)])∧Below w.heap.size w w':=by
 have hst:=iJ
 have E4:Hid (false=Pl.vfl 2 s x v):=hide (by simp [Pl.vfl])
 have HF:=hide h
 have HWW:=hide hW
 clear h hW
 go_enter func229,ntmps229
 go_wp2_with fail
 clear hst
 obtain ⟨X,hX⟩:∃X:World,X=(((w.alloc (.cells #[iv v,iv W,iv x,iv f,.bool false] 219)).alloc (.cells ftZ 219)).alloc (.cells #[.func (.func 247) #[] #[],.func (.func 248) #[] #[],.func (.func 249) #[] #[],.func (.func 250) #[] #[],.func (.func 251) #[] #[],.func (.func 252) #[] #[],.func (.func 253) #[] #[],.func (.func 254) #[] #[]] 238)):=⟨_,rfl⟩
 rw [←hX]
 have B1:Box X w.heap.size v W x f false:=by rw [hX];exact Box.zC _ _ _ _ _ _ _ _
 have B2:Box X (w.heap.size+1) 0 0 0 0 false:=by rw [hX];exact Box.zB _ _ _ _ _ _ _ _
 have hF:X.cell? ⟨w.heap.size+1+1,2,none⟩=some (.func (.func 249) #[] #[]):=by rw [hX];go_simp
 have HX:Hid (Below w.heap.size w X):=hide (by rw [hX];exact (((Below.refl _ _).alloc (by simp) _).alloc (by simp) _).alloc (by simp<;>omega) _)
 clear hX
 obtain ⟨a0,a1,a2,a3,a4,_,_,_,_,_⟩:=B1.cells
 have HB2:=hide B2
 clear B1 B2
 go_region_with (go_at_call 249;refine (Ob s v x f W false _ HF.o HWW.o).mono ?_;rintro e wt ⟨rfl,hb0⟩;have hb:=oP hb0;clear hb0;have HBt:=hide (HB2.o.later hb);obtain ⟨c0,c1,c2,c3,c4,g0,g1,g2,g3,g4⟩:=HBt.o.cells;have HB:=hide hb;clear hb a0 a1 a2 a3 a4 hF)
 all_goals
  go_wp2_with fail
  refine bodyPost_ret (v:=.agg #[iv (Pl.nv 2 s x v),iv W,iv (Pl.nx 2 s x v),iv (Pl.fell 2 s v),.bool false]) ?_ rfl ⟨?_,?_⟩
  ·exact gW rfl _ rfl (HBt.o.set)
  ·exact rA rfl rfl rfl rfl E4.o
  ·exact (((((HX.o.trans (HB.o.mono HX.o.size)).setCell (by simp) _).setCell (by simp) _).setCell (by simp) _).setCell (by simp) _).setCell (by simp) _
theorem Tc (s v x f W:Int) (w:World) (h:Pl.Fit s (v,x)) (hW:W=8*s) :
  Calls prog 229 #[.agg #[iv v,iv W,iv x,iv f,.bool false],iv 3] w fun e w'=>e=.returned (.agg #[iv (Pl.nv 3 s x v),iv W,iv (Pl.nx 3 s x v),iv (Pl.fell 3 s v),.bool (Pl.vfl 3 s x v)])∧Below w.heap.size w w':=by
 have hst:=iJ
 have E4:Hid (false=Pl.vfl 3 s x v):=hide (by simp [Pl.vfl])
 have HF:=hide h
 have HWW:=hide hW
 clear h hW
 go_enter func229,ntmps229
 go_wp2_with fail
 clear hst
 obtain ⟨X,hX⟩:∃X:World,X=(((w.alloc (.cells #[iv v,iv W,iv x,iv f,.bool false] 219)).alloc (.cells ftZ 219)).alloc (.cells #[.func (.func 247) #[] #[],.func (.func 248) #[] #[],.func (.func 249) #[] #[],.func (.func 250) #[] #[],.func (.func 251) #[] #[],.func (.func 252) #[] #[],.func (.func 253) #[] #[],.func (.func 254) #[] #[]] 238)):=⟨_,rfl⟩
 rw [←hX]
 have B1:Box X w.heap.size v W x f false:=by rw [hX];exact Box.zC _ _ _ _ _ _ _ _
 have B2:Box X (w.heap.size+1) 0 0 0 0 false:=by rw [hX];exact Box.zB _ _ _ _ _ _ _ _
 have hF:X.cell? ⟨w.heap.size+1+1,3,none⟩=some (.func (.func 250) #[] #[]):=by rw [hX];go_simp
 have HX:Hid (Below w.heap.size w X):=hide (by rw [hX];exact (((Below.refl _ _).alloc (by simp) _).alloc (by simp) _).alloc (by simp<;>omega) _)
 clear hX
 obtain ⟨a0,a1,a2,a3,a4,_,_,_,_,_⟩:=B1.cells
 have HB2:=hide B2
 clear B1 B2
 go_region_with (go_at_call 250;refine (EZ s v x f W false _ HF.o HWW.o).mono ?_;rintro e wt ⟨rfl,hb0⟩;have hb:=oP hb0;clear hb0;have HBt:=hide (HB2.o.later hb);obtain ⟨c0,c1,c2,c3,c4,g0,g1,g2,g3,g4⟩:=HBt.o.cells;have HB:=hide hb;clear hb a0 a1 a2 a3 a4 hF)
 all_goals
  go_wp2_with fail
  refine bodyPost_ret (v:=.agg #[iv (Pl.nv 3 s x v),iv W,iv (Pl.nx 3 s x v),iv (Pl.fell 3 s v),.bool false]) ?_ rfl ⟨?_,?_⟩
  ·exact gW rfl _ rfl (HBt.o.set)
  ·exact rA rfl rfl rfl rfl E4.o
  ·exact (((((HX.o.trans (HB.o.mono HX.o.size)).setCell (by simp) _).setCell (by simp) _).setCell (by simp) _).setCell (by simp) _).setCell (by simp) _
theorem SX (s v x f W:Int) (w:World) (h:Pl.Fit s (v,x)) (hW:W=8*s) :
  Calls prog 229 #[.agg #[iv v,iv W,iv x,iv f,.bool false],iv 4] w fun e w'=>e=.returned (.agg #[iv (Pl.nv 4 s x v),iv W,iv (Pl.nx 4 s x v),iv (Pl.fell 4 s v),.bool (Pl.vfl 4 s x v)])∧Below w.heap.size w w':=by
 have hst:=iJ
 have E4:Hid (false=Pl.vfl 4 s x v):=hide (by simp [Pl.vfl])
 have HF:=hide h
 have HWW:=hide hW
 clear h hW
 go_enter func229,ntmps229
 go_wp2_with fail
 clear hst
 obtain ⟨X,hX⟩:∃X:World,X=(((w.alloc (.cells #[iv v,iv W,iv x,iv f,.bool false] 219)).alloc (.cells ftZ 219)).alloc (.cells #[.func (.func 247) #[] #[],.func (.func 248) #[] #[],.func (.func 249) #[] #[],.func (.func 250) #[] #[],.func (.func 251) #[] #[],.func (.func 252) #[] #[],.func (.func 253) #[] #[],.func (.func 254) #[] #[]] 238)):=⟨_,rfl⟩
 rw [←hX]
 have B1:Box X w.heap.size v W x f false:=by rw [hX];exact Box.zC _ _ _ _ _ _ _ _
 have B2:Box X (w.heap.size+1) 0 0 0 0 false:=by rw [hX];exact Box.zB _ _ _ _ _ _ _ _
 have hF:X.cell? ⟨w.heap.size+1+1,4,none⟩=some (.func (.func 251) #[] #[]):=by rw [hX];go_simp
 have HX:Hid (Below w.heap.size w X):=hide (by rw [hX];exact (((Below.refl _ _).alloc (by simp) _).alloc (by simp) _).alloc (by simp<;>omega) _)
 clear hX
 obtain ⟨a0,a1,a2,a3,a4,_,_,_,_,_⟩:=B1.cells
 have HB2:=hide B2
 clear B1 B2
 go_region_with (go_at_call 251;refine (RN s v x f W false _ HF.o HWW.o).mono ?_;rintro e wt ⟨rfl,hb0⟩;have hb:=oP hb0;clear hb0;have HBt:=hide (HB2.o.later hb);obtain ⟨c0,c1,c2,c3,c4,g0,g1,g2,g3,g4⟩:=HBt.o.cells;have HB:=hide hb;clear hb a0 a1 a2 a3 a4 hF)
 all_goals
  go_wp2_with fail
  refine bodyPost_ret (v:=.agg #[iv (Pl.nv 4 s x v),iv W,iv (Pl.nx 4 s x v),iv (Pl.fell 4 s v),.bool false]) ?_ rfl ⟨?_,?_⟩
  ·exact gW rfl _ rfl (HBt.o.set)
  ·exact rA rfl rfl rfl rfl E4.o
  ·exact (((((HX.o.trans (HB.o.mono HX.o.size)).setCell (by simp) _).setCell (by simp) _).setCell (by simp) _).setCell (by simp) _).setCell (by simp) _
theorem SV (s v x f W:Int) (w:World) (h:Pl.Fit s (v,x)) (hW:W=8*s) :
  Calls prog 229 #[.agg #[iv v,iv W,iv x,iv f,.bool false],iv 5] w fun e w'=>e=.returned (.agg #[iv (Pl.nv 5 s x v),iv W,iv (Pl.nx 5 s x v),iv (Pl.fell 5 s v),.bool (Pl.vfl 5 s x v)])∧Below w.heap.size w w':=by
 have hst:=iJ
 have E4:Hid (false=Pl.vfl 5 s x v):=hide (by simp [Pl.vfl])
 have HF:=hide h
 have HWW:=hide hW
 clear h hW
 go_enter func229,ntmps229
 go_wp2_with fail
 clear hst
 obtain ⟨X,hX⟩:∃X:World,X=(((w.alloc (.cells #[iv v,iv W,iv x,iv f,.bool false] 219)).alloc (.cells ftZ 219)).alloc (.cells #[.func (.func 247) #[] #[],.func (.func 248) #[] #[],.func (.func 249) #[] #[],.func (.func 250) #[] #[],.func (.func 251) #[] #[],.func (.func 252) #[] #[],.func (.func 253) #[] #[],.func (.func 254) #[] #[]] 238)):=⟨_,rfl⟩
 rw [←hX]
 have B1:Box X w.heap.size v W x f false:=by rw [hX];exact Box.zC _ _ _ _ _ _ _ _
 have B2:Box X (w.heap.size+1) 0 0 0 0 false:=by rw [hX];exact Box.zB _ _ _ _ _ _ _ _
 have hF:X.cell? ⟨w.heap.size+1+1,5,none⟩=some (.func (.func 252) #[] #[]):=by rw [hX];go_simp
 have HX:Hid (Below w.heap.size w X):=hide (by rw [hX];exact (((Below.refl _ _).alloc (by simp) _).alloc (by simp) _).alloc (by simp<;>omega) _)
 clear hX
 obtain ⟨a0,a1,a2,a3,a4,_,_,_,_,_⟩:=B1.cells
 have HB2:=hide B2
 clear B1 B2
 go_region_with (go_at_call 252;refine (Hg s v x f W false _ HF.o HWW.o).mono ?_;rintro e wt ⟨rfl,hb0⟩;have hb:=oP hb0;clear hb0;have HBt:=hide (HB2.o.later hb);obtain ⟨c0,c1,c2,c3,c4,g0,g1,g2,g3,g4⟩:=HBt.o.cells;have HB:=hide hb;clear hb a0 a1 a2 a3 a4 hF)
 all_goals
  go_wp2_with fail
  refine bodyPost_ret (v:=.agg #[iv (Pl.nv 5 s x v),iv W,iv (Pl.nx 5 s x v),iv (Pl.fell 5 s v),.bool false]) ?_ rfl ⟨?_,?_⟩
  ·exact gW rfl _ rfl (HBt.o.set)
  ·exact rA rfl rfl rfl rfl E4.o
  ·exact (((((HX.o.trans (HB.o.mono HX.o.size)).setCell (by simp) _).setCell (by simp) _).setCell (by simp) _).setCell (by simp) _).setCell (by simp) _
theorem SS (s v x f W:Int) (w:World) (h:Pl.Fit s (v,x)) (hW:W=8*s) :
  Calls prog 229 #[.agg #[iv v,iv W,iv x,iv f,.bool false],iv 6] w fun e w'=>e=.returned (.agg #[iv (Pl.nv 6 s x v),iv W,iv (Pl.nx 6 s x v),iv (Pl.fell 6 s v),.bool (Pl.vfl 6 s x v)])∧Below w.heap.size w w':=by
 have hst:=iJ
 have E4:Hid (false=Pl.vfl 6 s x v):=hide (by simp [Pl.vfl])
 have HF:=hide h
 have HWW:=hide hW
 clear h hW
 go_enter func229,ntmps229
 go_wp2_with fail
 clear hst
 obtain ⟨X,hX⟩:∃X:World,X=(((w.alloc (.cells #[iv v,iv W,iv x,iv f,.bool false] 219)).alloc (.cells ftZ 219)).alloc (.cells #[.func (.func 247) #[] #[],.func (.func 248) #[] #[],.func (.func 249) #[] #[],.func (.func 250) #[] #[],.func (.func 251) #[] #[],.func (.func 252) #[] #[],.func (.func 253) #[] #[],.func (.func 254) #[] #[]] 238)):=⟨_,rfl⟩
 rw [←hX]
 have B1:Box X w.heap.size v W x f false:=by rw [hX];exact Box.zC _ _ _ _ _ _ _ _
 have B2:Box X (w.heap.size+1) 0 0 0 0 false:=by rw [hX];exact Box.zB _ _ _ _ _ _ _ _
 have hF:X.cell? ⟨w.heap.size+1+1,6,none⟩=some (.func (.func 253) #[] #[]):=by rw [hX];go_simp
 have HX:Hid (Below w.heap.size w X):=hide (by rw [hX];exact (((Below.refl _ _).alloc (by simp) _).alloc (by simp) _).alloc (by simp<;>omega) _)
 clear hX
 obtain ⟨a0,a1,a2,a3,a4,_,_,_,_,_⟩:=B1.cells
 have HB2:=hide B2
 clear B1 B2
 go_region_with (go_at_call 253;refine (qJ s v x f W false _ HF.o HWW.o).mono ?_;rintro e wt ⟨rfl,hb0⟩;have hb:=oP hb0;clear hb0;have HBt:=hide (HB2.o.later hb);obtain ⟨c0,c1,c2,c3,c4,g0,g1,g2,g3,g4⟩:=HBt.o.cells;have HB:=hide hb;clear hb a0 a1 a2 a3 a4 hF)
 all_goals
  go_wp2_with fail
  refine bodyPost_ret (v:=.agg #[iv (Pl.nv 6 s x v),iv W,iv (Pl.nx 6 s x v),iv (Pl.fell 6 s v),.bool false]) ?_ rfl ⟨?_,?_⟩
  ·exact gW rfl _ rfl (HBt.o.set)
  ·exact rA rfl rfl rfl rfl E4.o
  ·exact (((((HX.o.trans (HB.o.mono HX.o.size)).setCell (by simp) _).setCell (by simp) _).setCell (by simp) _).setCell (by simp) _).setCell (by simp) _
theorem SQ (s v x f W:Int) (w:World) (h:Pl.Fit s (v,x)) (hW:W=8*s) :
  Calls prog 229 #[.agg #[iv v,iv W,iv x,iv f,.bool false],iv 7] w fun e w'=>e=.returned (.agg #[iv (Pl.nv 7 s x v),iv W,iv (Pl.nx 7 s x v),iv (Pl.fell 7 s v),.bool (Pl.vfl 7 s x v)])∧Below w.heap.size w w':=by
 have hst:=iJ
 have E4:Hid (false=Pl.vfl 7 s x v):=hide (by simp [Pl.vfl])
 have HF:=hide h
 have HWW:=hide hW
 clear h hW
 go_enter func229,ntmps229
 go_wp2_with fail
 clear hst
 obtain ⟨X,hX⟩:∃X:World,X=(((w.alloc (.cells #[iv v,iv W,iv x,iv f,.bool false] 219)).alloc (.cells ftZ 219)).alloc (.cells #[.func (.func 247) #[] #[],.func (.func 248) #[] #[],.func (.func 249) #[] #[],.func (.func 250) #[] #[],.func (.func 251) #[] #[],.func (.func 252) #[] #[],.func (.func 253) #[] #[],.func (.func 254) #[] #[]] 238)):=⟨_,rfl⟩
 rw [←hX]
 have B1:Box X w.heap.size v W x f false:=by rw [hX];exact Box.zC _ _ _ _ _ _ _ _
 have B2:Box X (w.heap.size+1) 0 0 0 0 false:=by rw [hX];exact Box.zB _ _ _ _ _ _ _ _
 have hF:X.cell? ⟨w.heap.size+1+1,7,none⟩=some (.func (.func 254) #[] #[]):=by rw [hX];go_simp
 have HX:Hid (Below w.heap.size w X):=hide (by rw [hX];exact (((Below.refl _ _).alloc (by simp) _).alloc (by simp) _).alloc (by simp<;>omega) _)
 clear hX
 obtain ⟨a0,a1,a2,a3,a4,_,_,_,_,_⟩:=B1.cells
 have HB2:=hide B2
 clear B1 B2
 go_region_with (go_at_call 254;refine (oz s v x f W false _ HF.o HWW.o).mono ?_;rintro e wt ⟨rfl,hb0⟩;have hb:=oP hb0;clear hb0;have HBt:=hide (HB2.o.later hb);obtain ⟨c0,c1,c2,c3,c4,g0,g1,g2,g3,g4⟩:=HBt.o.cells;have HB:=hide hb;clear hb a0 a1 a2 a3 a4 hF)
 all_goals
  go_wp2_with fail
  refine bodyPost_ret (v:=.agg #[iv (Pl.nv 7 s x v),iv W,iv (Pl.nx 7 s x v),iv (Pl.fell 7 s v),.bool false]) ?_ rfl ⟨?_,?_⟩
  ·exact gW rfl _ rfl (HBt.o.set)
  ·exact rA rfl rfl rfl rfl E4.o
  ·exact (((((HX.o.trans (HB.o.mono HX.o.size)).setCell (by simp) _).setCell (by simp) _).setCell (by simp) _).setCell (by simp) _).setCell (by simp) _
theorem moved (k s v x f W:Int) (t:Bool) (w:World) (k0:0≤k) (k1:k≤7) (h:Pl.Fit s (v,x)) (hW:W=8*s) (ht:k=0∨t=false) :
  Calls prog 229 #[.agg #[iv v,iv W,iv x,iv f,.bool t],iv k] w fun e w'=>e=.returned (.agg #[iv (Pl.nv k s x v),iv W,iv (Pl.nx k s x v),iv (Pl.fell k s v),.bool (Pl.vfl k s x v)])∧Below w.heap.size w w':=by
 have hk:k=0∨k=1∨k=2∨k=3∨k=4∨k=5∨k=6∨k=7:=by omega
 rcases hk with rfl|rfl|rfl|rfl|rfl|rfl|rfl|rfl
 ·exact Ti s v x f W t w h hW
 ·obtain rfl:t=false:=ht.resolve_left (by decide)
  exact Tf s v x f W w h hW
 ·obtain rfl:t=false:=ht.resolve_left (by decide)
  exact Td s v x f W w h hW
 ·obtain rfl:t=false:=ht.resolve_left (by decide)
  exact Tc s v x f W w h hW
 ·obtain rfl:t=false:=ht.resolve_left (by decide)
  exact SX s v x f W w h hW
 ·obtain rfl:t=false:=ht.resolve_left (by decide)
  exact SV s v x f W w h hW
 ·obtain rfl:t=false:=ht.resolve_left (by decide)
  exact SS s v x f W w h hW
 ·obtain rfl:t=false:=ht.resolve_left (by decide)
  exact SQ s v x f W w h hW
end Go.Proofs.YtkkmnnhaailkcaaGreatDoor
namespace Go.Proofs.YtkkmnnhaailkcaaGreatDoor.Pl
set_option linter.unusedVariables false
def pop:Nat→Int→Int
 | 0,_=>0
 | n+1,v=>v%2+pop n (v/2)
end Go.Proofs.YtkkmnnhaailkcaaGreatDoor.Pl
