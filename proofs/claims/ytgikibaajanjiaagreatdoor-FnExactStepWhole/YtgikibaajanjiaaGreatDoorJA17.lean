/- Part 17 of what the last text leans on. -/
import Derived.Test.YtgikibaajanjiaaGreatDoorJA13
set_option maxRecDepth 100000
set_option maxHeartbeats 16000000
namespace Go.Proofs.YtgikibaajanjiaaGreatDoor
open Pl
open Go.RowKit Go.Proofs.Tryz
set_option linter.unusedVariables false
set_option linter.unusedSimpArgs false
theorem vW (v x f:Int) (t:Bool) (w:World) (h0:0<=v) (h1:v<256) (x0:0<=x) (x1:x<=1) :
  Calls prog 303 #[.agg #[iv v,iv 8,iv x,iv f,.bool t]] w fun e w'=>e=.returned (.agg #[iv (nv 0 1 x v),iv 8,iv (nx 0 1 x v),iv (fell 0 1 v),.bool (vfl 0 1 x v)])∧Below w.heap.size w w':=by
 obtain ⟨b0,b1⟩:=dC 1 v;have E1:Hid ((v*2%256)=nv 0 1 x v):=Zr (by simp only [nv,inn,fell,Pl.top,Int.reduceMod,Int.reduceEq,Int.reduceLE,Int.reduceDiv,if_true,if_false,or_self,or_true,true_or,or_false,false_or]<;>omega);have E2:Hid ((Pl.hi 1 v)=nx 0 1 x v):=Zr (by simp only [nx,fell,Int.reduceMod,Int.reduceEq,if_true,if_false,or_self,or_true,true_or,or_false,false_or]);have E3:Hid ((Pl.hi 1 v)=fell 0 1 v):=Zr (by simp only [fell,Int.reduceMod,Int.reduceEq,if_true,if_false]);have E4:Hid ((Pl.hi 1 (v*2%256) != Pl.hi 1 v)=vfl 0 1 x v):=Zr (by rw [vfl,<-E1.o,lU];rfl);go_enter func303,ntmps303;go_wp2_with (first|(go_at_call 311;refine (fD _ _ _ _ _ ?h0 ?h1).mono ?_;(case h0=>omega);(case h1=>omega);rintro e w' ⟨rfl,o6,rfl⟩)|(go_at_call 323;refine (lowest _ _ _ _ _ _).mono ?_;rintro e w' ⟨rfl,o6,rfl⟩)|(go_at_call 320;refine (pq _ _ _ _ _ _ ?h0 ?h1 ?h2 ?h3).mono ?_;(case h0=>omega);(case h1=>omega);(case h2=>omega);(case h3=>omega);rintro e w' ⟨rfl,o1,o2,o3,rfl⟩)|(go_at_call 321;refine (aQ _ _ _ _ _ _).mono ?_;rintro e w' ⟨rfl,o4,o5,rfl⟩));go_region_with (first|(go_at_call 311;refine (fD _ _ _ _ _ ?h0 ?h1).mono ?_;(case h0=>omega);(case h1=>omega);rintro e w' ⟨rfl,o6,rfl⟩)|(go_at_call 323;refine (lowest _ _ _ _ _ _).mono ?_;rintro e w' ⟨rfl,o6,rfl⟩)|(go_at_call 320;refine (pq _ _ _ _ _ _ ?h0 ?h1 ?h2 ?h3).mono ?_;(case h0=>omega);(case h1=>omega);(case h2=>omega);(case h3=>omega);rintro e w' ⟨rfl,o1,o2,o3,rfl⟩)|(go_at_call 321;refine (aQ _ _ _ _ _ _).mono ?_;rintro e w' ⟨rfl,o4,o5,rfl⟩))
 all_goals go_wp2_with fail
 all_goals
  refine bodyPost_ret (v:=.agg #[iv (v*2%256),iv 8,iv (Pl.hi 1 v),iv (Pl.hi 1 v),.bool (Pl.hi 1 (v*2%256) != Pl.hi 1 v)]) ?_ rfl ⟨?_,?_⟩
  ·rw [aN rfl];go_simp
  ·exact rA E1.o rfl E2.o E3.o E4.o
  ·(repeat' (first|with_reducible exact Below.refl _ _|with_reducible refine Below.drew ?_|with_reducible refine Below.alloc ?_ ?_ _|(simp;done)|(simp;omega)))
theorem sZ (v x f:Int) (t:Bool) (w:World) (h0:0<=v) (h1:v<256) (x0:0<=x) (x1:x<=1) :
  Calls prog 304 #[.agg #[iv v,iv 8,iv x,iv f,.bool t]] w fun e w'=>e=.returned (.agg #[iv (nv 1 1 x v),iv 8,iv (nx 1 1 x v),iv (fell 1 1 v),.bool t])∧Below w.heap.size w w':=by
 obtain ⟨b0,b1⟩:=dC 1 v;have E1:Hid ((v/2+Pl.hi 1 v*128)=nv 1 1 x v):=Zr (by simp only [nv,inn,fell,Pl.top,Int.reduceMod,Int.reduceEq,Int.reduceLE,Int.reduceDiv,if_true,if_false,or_self,or_true,true_or,or_false,false_or]<;>omega);have E2:Hid ((v%2)=nx 1 1 x v):=Zr (by simp only [nx,fell,Int.reduceMod,Int.reduceEq,if_true,if_false,or_self,or_true,true_or,or_false,false_or]);have E3:Hid ((v%2)=fell 1 1 v):=Zr (by simp only [fell,Int.reduceMod,Int.reduceEq,if_true,if_false]);go_enter func304,ntmps304;go_wp2_with (first|(go_at_call 311;refine (fD _ _ _ _ _ ?h0 ?h1).mono ?_;(case h0=>omega);(case h1=>omega);rintro e w' ⟨rfl,o6,rfl⟩)|(go_at_call 323;refine (lowest _ _ _ _ _ _).mono ?_;rintro e w' ⟨rfl,o6,rfl⟩)|(go_at_call 322;refine (kF _ _ _ _ _ _ ?h0 ?h1 ?h2 ?h3).mono ?_;(case h0=>omega);(case h1=>omega);(case h2=>omega);(case h3=>omega);rintro e w' ⟨rfl,o1,o2,o3,rfl⟩)|(go_at_call 321;refine (aQ _ _ _ _ _ _).mono ?_;rintro e w' ⟨rfl,o4,o5,rfl⟩));go_region_with (first|(go_at_call 311;refine (fD _ _ _ _ _ ?h0 ?h1).mono ?_;(case h0=>omega);(case h1=>omega);rintro e w' ⟨rfl,o6,rfl⟩)|(go_at_call 323;refine (lowest _ _ _ _ _ _).mono ?_;rintro e w' ⟨rfl,o6,rfl⟩)|(go_at_call 322;refine (kF _ _ _ _ _ _ ?h0 ?h1 ?h2 ?h3).mono ?_;(case h0=>omega);(case h1=>omega);(case h2=>omega);(case h3=>omega);rintro e w' ⟨rfl,o1,o2,o3,rfl⟩)|(go_at_call 321;refine (aQ _ _ _ _ _ _).mono ?_;rintro e w' ⟨rfl,o4,o5,rfl⟩))
 all_goals go_wp2_with fail
 all_goals
  refine bodyPost_ret (v:=.agg #[iv (v/2+Pl.hi 1 v*128),iv 8,iv (v%2),iv (v%2),.bool t]) ?_ rfl ⟨?_,?_⟩
  ·rw [aN rfl];go_simp
  ·exact rA E1.o rfl E2.o E3.o rfl
  ·(repeat' (first|with_reducible exact Below.refl _ _|with_reducible refine Below.drew ?_|with_reducible refine Below.alloc ?_ ?_ _|(simp;done)|(simp;omega)))
theorem Ih (v x f:Int) (t:Bool) (w:World) (h0:0<=v) (h1:v<256) (x0:0<=x) (x1:x<=1) :
  Calls prog 305 #[.agg #[iv v,iv 8,iv x,iv f,.bool t]] w fun e w'=>e=.returned (.agg #[iv (nv 2 1 x v),iv 8,iv (nx 2 1 x v),iv (fell 2 1 v),.bool t])∧Below w.heap.size w w':=by
 obtain ⟨b0,b1⟩:=dC 1 v;have E1:Hid ((v*2%256)=nv 2 1 x v):=Zr (by simp only [nv,inn,fell,Pl.top,Int.reduceMod,Int.reduceEq,Int.reduceLE,Int.reduceDiv,if_true,if_false,or_self,or_true,true_or,or_false,false_or]<;>omega);have E2:Hid ((Pl.hi 1 v)=nx 2 1 x v):=Zr (by simp only [nx,fell,Int.reduceMod,Int.reduceEq,if_true,if_false,or_self,or_true,true_or,or_false,false_or]);have E3:Hid ((Pl.hi 1 v)=fell 2 1 v):=Zr (by simp only [fell,Int.reduceMod,Int.reduceEq,if_true,if_false]);go_enter func305,ntmps305;go_wp2_with (first|(go_at_call 311;refine (fD _ _ _ _ _ ?h0 ?h1).mono ?_;(case h0=>omega);(case h1=>omega);rintro e w' ⟨rfl,o6,rfl⟩)|(go_at_call 323;refine (lowest _ _ _ _ _ _).mono ?_;rintro e w' ⟨rfl,o6,rfl⟩)|(go_at_call 320;refine (pq _ _ _ _ _ _ ?h0 ?h1 ?h2 ?h3).mono ?_;(case h0=>omega);(case h1=>omega);(case h2=>omega);(case h3=>omega);rintro e w' ⟨rfl,o1,o2,o3,rfl⟩)|(go_at_call 321;refine (aQ _ _ _ _ _ _).mono ?_;rintro e w' ⟨rfl,o4,o5,rfl⟩))
 all_goals
  refine bodyPost_ret (v:=.agg #[iv (v*2%256),iv 8,iv (Pl.hi 1 v),iv (Pl.hi 1 v),.bool t]) ?_ rfl ⟨?_,?_⟩
  ·rw [aN rfl];go_simp
  ·exact rA E1.o rfl E2.o E3.o rfl
  ·(repeat' (first|with_reducible exact Below.refl _ _|with_reducible refine Below.drew ?_|with_reducible refine Below.alloc ?_ ?_ _|(simp;done)|(simp;omega)))
theorem AX (v x f:Int) (t:Bool) (w:World) (h0:0<=v) (h1:v<256) (x0:0<=x) (x1:x<=1) :
  Calls prog 306 #[.agg #[iv v,iv 8,iv x,iv f,.bool t]] w fun e w'=>e=.returned (.agg #[iv (nv 3 1 x v),iv 8,iv (nx 3 1 x v),iv (fell 3 1 v),.bool t])∧Below w.heap.size w w':=by
 obtain ⟨b0,b1⟩:=dC 1 v;have E1:Hid ((v/2)=nv 3 1 x v):=Zr (by simp only [nv,inn,fell,Pl.top,Int.reduceMod,Int.reduceEq,Int.reduceLE,Int.reduceDiv,if_true,if_false,or_self,or_true,true_or,or_false,false_or]<;>omega);have E2:Hid ((v%2)=nx 3 1 x v):=Zr (by simp only [nx,fell,Int.reduceMod,Int.reduceEq,if_true,if_false,or_self,or_true,true_or,or_false,false_or]);have E3:Hid ((v%2)=fell 3 1 v):=Zr (by simp only [fell,Int.reduceMod,Int.reduceEq,if_true,if_false]);go_enter func306,ntmps306;go_wp2_with (first|(go_at_call 311;refine (fD _ _ _ _ _ ?h0 ?h1).mono ?_;(case h0=>omega);(case h1=>omega);rintro e w' ⟨rfl,o6,rfl⟩)|(go_at_call 323;refine (lowest _ _ _ _ _ _).mono ?_;rintro e w' ⟨rfl,o6,rfl⟩)|(go_at_call 322;refine (kF _ _ _ _ _ _ ?h0 ?h1 ?h2 ?h3).mono ?_;(case h0=>omega);(case h1=>omega);(case h2=>omega);(case h3=>omega);rintro e w' ⟨rfl,o1,o2,o3,rfl⟩)|(go_at_call 321;refine (aQ _ _ _ _ _ _).mono ?_;rintro e w' ⟨rfl,o4,o5,rfl⟩))
 all_goals
  refine bodyPost_ret (v:=.agg #[iv (v/2),iv 8,iv (v%2),iv (v%2),.bool t]) ?_ rfl ⟨?_,?_⟩
  ·rw [aN rfl];go_simp
  ·exact rA E1.o rfl E2.o E3.o rfl
  ·(repeat' (first|with_reducible exact Below.refl _ _|with_reducible refine Below.drew ?_|with_reducible refine Below.alloc ?_ ?_ _|(simp;done)|(simp;omega)))
theorem MP (v x f:Int) (t:Bool) (w:World) (h0:0<=v) (h1:v<256) (x0:0<=x) (x1:x<=1) :
  Calls prog 307 #[.agg #[iv v,iv 8,iv x,iv f,.bool t]] w fun e w'=>e=.returned (.agg #[iv (nv 4 1 x v),iv 8,iv (nx 4 1 x v),iv (fell 4 1 v),.bool t])∧Below w.heap.size w w':=by
 obtain ⟨b0,b1⟩:=dC 1 v;have E1:Hid ((v*2%256+Pl.hi 1 v)=nv 4 1 x v):=Zr (by simp only [nv,inn,fell,Pl.top,Int.reduceMod,Int.reduceEq,Int.reduceLE,Int.reduceDiv,if_true,if_false,or_self,or_true,true_or,or_false,false_or]<;>omega);have E2:Hid (x=nx 4 1 x v):=Zr (by simp only [nx,fell,Int.reduceMod,Int.reduceEq,if_true,if_false,or_self,or_true,true_or,or_false,false_or]);have E3:Hid ((Pl.hi 1 v)=fell 4 1 v):=Zr (by simp only [fell,Int.reduceMod,Int.reduceEq,if_true,if_false]);go_enter func307,ntmps307;go_wp2_with (first|(go_at_call 311;refine (fD _ _ _ _ _ ?h0 ?h1).mono ?_;(case h0=>omega);(case h1=>omega);rintro e w' ⟨rfl,o6,rfl⟩)|(go_at_call 323;refine (lowest _ _ _ _ _ _).mono ?_;rintro e w' ⟨rfl,o6,rfl⟩)|(go_at_call 320;refine (pq _ _ _ _ _ _ ?h0 ?h1 ?h2 ?h3).mono ?_;(case h0=>omega);(case h1=>omega);(case h2=>omega);(case h3=>omega);rintro e w' ⟨rfl,o1,o2,o3,rfl⟩)|(go_at_call 321;refine (aQ _ _ _ _ _ _).mono ?_;rintro e w' ⟨rfl,o4,o5,rfl⟩));go_region_with (first|(go_at_call 311;refine (fD _ _ _ _ _ ?h0 ?h1).mono ?_;(case h0=>omega);(case h1=>omega);rintro e w' ⟨rfl,o6,rfl⟩)|(go_at_call 323;refine (lowest _ _ _ _ _ _).mono ?_;rintro e w' ⟨rfl,o6,rfl⟩)|(go_at_call 320;refine (pq _ _ _ _ _ _ ?h0 ?h1 ?h2 ?h3).mono ?_;(case h0=>omega);(case h1=>omega);(case h2=>omega);(case h3=>omega);rintro e w' ⟨rfl,o1,o2,o3,rfl⟩)|(go_at_call 321;refine (aQ _ _ _ _ _ _).mono ?_;rintro e w' ⟨rfl,o4,o5,rfl⟩))
 all_goals go_wp2_with fail
 all_goals
  refine bodyPost_ret (v:=.agg #[iv (v*2%256+Pl.hi 1 v),iv 8,iv x,iv (Pl.hi 1 v),.bool t]) ?_ rfl ⟨?_,?_⟩
  ·rw [aN rfl];go_simp
  ·exact rA E1.o rfl E2.o E3.o rfl
  ·(repeat' (first|with_reducible exact Below.refl _ _|with_reducible refine Below.drew ?_|with_reducible refine Below.alloc ?_ ?_ _|(simp;done)|(simp;omega)))
theorem Ec (v x f:Int) (t:Bool) (w:World) (h0:0<=v) (h1:v<256) (x0:0<=x) (x1:x<=1) :
  Calls prog 308 #[.agg #[iv v,iv 8,iv x,iv f,.bool t]] w fun e w'=>e=.returned (.agg #[iv (nv 5 1 x v),iv 8,iv (nx 5 1 x v),iv (fell 5 1 v),.bool t])∧Below w.heap.size w w':=by
 obtain ⟨b0,b1⟩:=dC 1 v;have E1:Hid ((v/2+v%2*128)=nv 5 1 x v):=Zr (by simp only [nv,inn,fell,Pl.top,Int.reduceMod,Int.reduceEq,Int.reduceLE,Int.reduceDiv,if_true,if_false,or_self,or_true,true_or,or_false,false_or]<;>omega);have E2:Hid (x=nx 5 1 x v):=Zr (by simp only [nx,fell,Int.reduceMod,Int.reduceEq,if_true,if_false,or_self,or_true,true_or,or_false,false_or]);have E3:Hid ((v%2)=fell 5 1 v):=Zr (by simp only [fell,Int.reduceMod,Int.reduceEq,if_true,if_false]);go_enter func308,ntmps308;go_wp2_with (first|(go_at_call 311;refine (fD _ _ _ _ _ ?h0 ?h1).mono ?_;(case h0=>omega);(case h1=>omega);rintro e w' ⟨rfl,o6,rfl⟩)|(go_at_call 323;refine (lowest _ _ _ _ _ _).mono ?_;rintro e w' ⟨rfl,o6,rfl⟩)|(go_at_call 322;refine (kF _ _ _ _ _ _ ?h0 ?h1 ?h2 ?h3).mono ?_;(case h0=>omega);(case h1=>omega);(case h2=>omega);(case h3=>omega);rintro e w' ⟨rfl,o1,o2,o3,rfl⟩)|(go_at_call 321;refine (aQ _ _ _ _ _ _).mono ?_;rintro e w' ⟨rfl,o4,o5,rfl⟩));go_region_with (first|(go_at_call 311;refine (fD _ _ _ _ _ ?h0 ?h1).mono ?_;(case h0=>omega);(case h1=>omega);rintro e w' ⟨rfl,o6,rfl⟩)|(go_at_call 323;refine (lowest _ _ _ _ _ _).mono ?_;rintro e w' ⟨rfl,o6,rfl⟩)|(go_at_call 322;refine (kF _ _ _ _ _ _ ?h0 ?h1 ?h2 ?h3).mono ?_;(case h0=>omega);(case h1=>omega);(case h2=>omega);(case h3=>omega);rintro e w' ⟨rfl,o1,o2,o3,rfl⟩)|(go_at_call 321;refine (aQ _ _ _ _ _ _).mono ?_;rintro e w' ⟨rfl,o4,o5,rfl⟩))
 all_goals go_wp2_with fail
 all_goals
  refine bodyPost_ret (v:=.agg #[iv (v/2+v%2*128),iv 8,iv x,iv (v%2),.bool t]) ?_ rfl ⟨?_,?_⟩
  ·rw [aN rfl];go_simp
  ·exact rA E1.o rfl E2.o E3.o rfl
  ·(repeat' (first|with_reducible exact Below.refl _ _|with_reducible refine Below.drew ?_|with_reducible refine Below.alloc ?_ ?_ _|(simp;done)|(simp;omega)))
theorem nM (v x f:Int) (t:Bool) (w:World) (h0:0<=v) (h1:v<256) (x0:0<=x) (x1:x<=1) :
  Calls prog 309 #[.agg #[iv v,iv 8,iv x,iv f,.bool t]] w fun e w'=>e=.returned (.agg #[iv (nv 6 1 x v),iv 8,iv (nx 6 1 x v),iv (fell 6 1 v),.bool t])∧Below w.heap.size w w':=by
 obtain ⟨b0,b1⟩:=dC 1 v;have E1:Hid ((v*2%256+x)=nv 6 1 x v):=Zr (by simp only [nv,inn,fell,Pl.top,Int.reduceMod,Int.reduceEq,Int.reduceLE,Int.reduceDiv,if_true,if_false,or_self,or_true,true_or,or_false,false_or]<;>omega);have E2:Hid ((Pl.hi 1 v)=nx 6 1 x v):=Zr (by simp only [nx,fell,Int.reduceMod,Int.reduceEq,if_true,if_false,or_self,or_true,true_or,or_false,false_or]);have E3:Hid ((Pl.hi 1 v)=fell 6 1 v):=Zr (by simp only [fell,Int.reduceMod,Int.reduceEq,if_true,if_false]);go_enter func309,ntmps309;go_wp2_with (first|(go_at_call 311;refine (fD _ _ _ _ _ ?h0 ?h1).mono ?_;(case h0=>omega);(case h1=>omega);rintro e w' ⟨rfl,o6,rfl⟩)|(go_at_call 323;refine (lowest _ _ _ _ _ _).mono ?_;rintro e w' ⟨rfl,o6,rfl⟩)|(go_at_call 320;refine (pq _ _ _ _ _ _ ?h0 ?h1 ?h2 ?h3).mono ?_;(case h0=>omega);(case h1=>omega);(case h2=>omega);(case h3=>omega);rintro e w' ⟨rfl,o1,o2,o3,rfl⟩)|(go_at_call 321;refine (aQ _ _ _ _ _ _).mono ?_;rintro e w' ⟨rfl,o4,o5,rfl⟩))
 all_goals
  refine bodyPost_ret (v:=.agg #[iv (v*2%256+x),iv 8,iv (Pl.hi 1 v),iv (Pl.hi 1 v),.bool t]) ?_ rfl ⟨?_,?_⟩
  ·rw [aN rfl];go_simp
  ·exact rA E1.o rfl E2.o E3.o rfl
  ·(repeat' (first|with_reducible exact Below.refl _ _|with_reducible refine Below.drew ?_|with_reducible refine Below.alloc ?_ ?_ _|(simp;done)|(simp;omega)))
theorem mg (v x f:Int) (t:Bool) (w:World) (h0:0<=v) (h1:v<256) (x0:0<=x) (x1:x<=1) :
  Calls prog 310 #[.agg #[iv v,iv 8,iv x,iv f,.bool t]] w fun e w'=>e=.returned (.agg #[iv (nv 7 1 x v),iv 8,iv (nx 7 1 x v),iv (fell 7 1 v),.bool t])∧Below w.heap.size w w':=by
 obtain ⟨b0,b1⟩:=dC 1 v;have E1:Hid ((v/2+x*128)=nv 7 1 x v):=Zr (by simp only [nv,inn,fell,Pl.top,Int.reduceMod,Int.reduceEq,Int.reduceLE,Int.reduceDiv,if_true,if_false,or_self,or_true,true_or,or_false,false_or]<;>omega);have E2:Hid ((v%2)=nx 7 1 x v):=Zr (by simp only [nx,fell,Int.reduceMod,Int.reduceEq,if_true,if_false,or_self,or_true,true_or,or_false,false_or]);have E3:Hid ((v%2)=fell 7 1 v):=Zr (by simp only [fell,Int.reduceMod,Int.reduceEq,if_true,if_false]);go_enter func310,ntmps310;go_wp2_with (first|(go_at_call 311;refine (fD _ _ _ _ _ ?h0 ?h1).mono ?_;(case h0=>omega);(case h1=>omega);rintro e w' ⟨rfl,o6,rfl⟩)|(go_at_call 323;refine (lowest _ _ _ _ _ _).mono ?_;rintro e w' ⟨rfl,o6,rfl⟩)|(go_at_call 322;refine (kF _ _ _ _ _ _ ?h0 ?h1 ?h2 ?h3).mono ?_;(case h0=>omega);(case h1=>omega);(case h2=>omega);(case h3=>omega);rintro e w' ⟨rfl,o1,o2,o3,rfl⟩)|(go_at_call 321;refine (aQ _ _ _ _ _ _).mono ?_;rintro e w' ⟨rfl,o4,o5,rfl⟩))
 all_goals
  refine bodyPost_ret (v:=.agg #[iv (v/2+x*128),iv 8,iv (v%2),iv (v%2),.bool t]) ?_ rfl ⟨?_,?_⟩
  ·rw [aN rfl];go_simp
  ·exact rA E1.o rfl E2.o E3.o rfl
  ·(repeat' (first|with_reducible exact Below.refl _ _|with_reducible refine Below.drew ?_|with_reducible refine Below.alloc ?_ ?_ _|(simp;done)|(simp;omega)))
end Go.Proofs.YtgikibaajanjiaaGreatDoor
