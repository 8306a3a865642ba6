/- Part 19 of what the last text leans on. -/
import Derived.Test.YtgikibaajanjiaaGreatDoorJE18
set_option maxRecDepth 100000
set_option maxHeartbeats 16000000
namespace Go.Proofs.YtgikibaajanjiaaGreatDoor
open Pl
open Go.RowKit Go.Proofs.Tryz
set_option linter.unusedVariables false
set_option linter.unusedSimpArgs false
theorem xk (v x f:Int) (t:Bool) (w:World) (h0:0<=v) (h1:v<65536) (x0:0<=x) (x1:x<=1) :
  Calls prog 303 #[.agg #[iv v,iv 16,iv x,iv f,.bool t]] w fun e w'=>e=.returned (.agg #[iv (nv 0 2 x v),iv 16,iv (nx 0 2 x v),iv (fell 0 2 v),.bool (vfl 0 2 x v)])/\Below w.heap.size w w':=by
 obtain⟨b0,b1⟩:=dJ 2 v;have E1:Hid ((v*2%65536)=nv 0 2 x v):=aba (by simp only[nv,inn,fell,Pl.top,Int.reduceMod,Int.reduceEq,Int.reduceLE,Int.reduceDiv,if_true,if_false,or_self,or_true,true_or,or_false,false_or]<;>omega);have E2:Hid ((Pl.hi 2 v)=nx 0 2 x v):=aba (by simp only[nx,fell,Int.reduceMod,Int.reduceEq,if_true,if_false,or_self,or_true,true_or,or_false,false_or]);have E3:Hid ((Pl.hi 2 v)=fell 0 2 v):=aba (by simp only[fell,Int.reduceMod,Int.reduceEq,if_true,if_false]);have E4:Hid ((Pl.hi 2 (v*2%65536) != Pl.hi 2 v)=vfl 0 2 x v):=aba (by rw[vfl,<-E1.o,mX];rfl);go_enter func303,ntmps303;go_wp2_with (first|(go_at_call 311;refine(fJ _ _ _ _ _ ?h0 ?h1).mono ?_;(case h0=>omega);(case h1=>omega);rintro e w'⟨rfl,o6,rfl⟩)|(go_at_call 323;refine(lowest _ _ _ _ _ _).mono ?_;rintro e w'⟨rfl,o6,rfl⟩)|(go_at_call 320;refine(qp _ _ _ _ _ _ ?h0 ?h1 ?h2 ?h3).mono ?_;(case h0=>omega);(case h1=>omega);(case h2=>omega);(case h3=>omega);rintro e w'⟨rfl,o1,o2,o3,rfl⟩)|(go_at_call 321;refine(aW _ _ _ _ _ _).mono ?_;rintro e w'⟨rfl,o4,o5,rfl⟩));go_region_with (first|(go_at_call 311;refine(fJ _ _ _ _ _ ?h0 ?h1).mono ?_;(case h0=>omega);(case h1=>omega);rintro e w'⟨rfl,o6,rfl⟩)|(go_at_call 323;refine(lowest _ _ _ _ _ _).mono ?_;rintro e w'⟨rfl,o6,rfl⟩)|(go_at_call 320;refine(qp _ _ _ _ _ _ ?h0 ?h1 ?h2 ?h3).mono ?_;(case h0=>omega);(case h1=>omega);(case h2=>omega);(case h3=>omega);rintro e w'⟨rfl,o1,o2,o3,rfl⟩)|(go_at_call 321;refine(aW _ _ _ _ _ _).mono ?_;rintro e w'⟨rfl,o4,o5,rfl⟩))
 all_goals go_wp2_with fail
 all_goals
  refine bodyPost_ret (v:=.agg #[iv (v*2%65536),iv 16,iv (Pl.hi 2 v),iv (Pl.hi 2 v),.bool (Pl.hi 2 (v*2%65536) != Pl.hi 2 v)]) ?_ rfl ⟨?_,?_⟩
  ·rw[aT rfl];go_simp
  ·exact rA E1.o rfl E2.o E3.o E4.o
  ·(repeat' (first|with_reducible exact Below.refl _ _|with_reducible refine Below.drew ?_|with_reducible refine Below.alloc ?_ ?_ _|(simp;done)|(simp;omega)))
theorem uH (v x f:Int) (t:Bool) (w:World) (h0:0<=v) (h1:v<65536) (x0:0<=x) (x1:x<=1) :
  Calls prog 304 #[.agg #[iv v,iv 16,iv x,iv f,.bool t]] w fun e w'=>e=.returned (.agg #[iv (nv 1 2 x v),iv 16,iv (nx 1 2 x v),iv (fell 1 2 v),.bool t])/\Below w.heap.size w w':=by
 obtain⟨b0,b1⟩:=dJ 2 v;have E1:Hid ((v/2+Pl.hi 2 v*32768)=nv 1 2 x v):=aba (by simp only[nv,inn,fell,Pl.top,Int.reduceMod,Int.reduceEq,Int.reduceLE,Int.reduceDiv,if_true,if_false,or_self,or_true,true_or,or_false,false_or]<;>omega);have E2:Hid ((v%2)=nx 1 2 x v):=aba (by simp only[nx,fell,Int.reduceMod,Int.reduceEq,if_true,if_false,or_self,or_true,true_or,or_false,false_or]);have E3:Hid ((v%2)=fell 1 2 v):=aba (by simp only[fell,Int.reduceMod,Int.reduceEq,if_true,if_false]);go_enter func304,ntmps304;go_wp2_with (first|(go_at_call 311;refine(fJ _ _ _ _ _ ?h0 ?h1).mono ?_;(case h0=>omega);(case h1=>omega);rintro e w'⟨rfl,o6,rfl⟩)|(go_at_call 323;refine(lowest _ _ _ _ _ _).mono ?_;rintro e w'⟨rfl,o6,rfl⟩)|(go_at_call 322;refine(kS _ _ _ _ _ _ ?h0 ?h1 ?h2 ?h3).mono ?_;(case h0=>omega);(case h1=>omega);(case h2=>omega);(case h3=>omega);rintro e w'⟨rfl,o1,o2,o3,rfl⟩)|(go_at_call 321;refine(aW _ _ _ _ _ _).mono ?_;rintro e w'⟨rfl,o4,o5,rfl⟩));go_region_with (first|(go_at_call 311;refine(fJ _ _ _ _ _ ?h0 ?h1).mono ?_;(case h0=>omega);(case h1=>omega);rintro e w'⟨rfl,o6,rfl⟩)|(go_at_call 323;refine(lowest _ _ _ _ _ _).mono ?_;rintro e w'⟨rfl,o6,rfl⟩)|(go_at_call 322;refine(kS _ _ _ _ _ _ ?h0 ?h1 ?h2 ?h3).mono ?_;(case h0=>omega);(case h1=>omega);(case h2=>omega);(case h3=>omega);rintro e w'⟨rfl,o1,o2,o3,rfl⟩)|(go_at_call 321;refine(aW _ _ _ _ _ _).mono ?_;rintro e w'⟨rfl,o4,o5,rfl⟩))
 all_goals go_wp2_with fail
 all_goals
  refine bodyPost_ret (v:=.agg #[iv (v/2+Pl.hi 2 v*32768),iv 16,iv (v%2),iv (v%2),.bool t]) ?_ rfl ⟨?_,?_⟩
  ·rw[aT rfl];go_simp
  ·exact rA E1.o rfl E2.o E3.o rfl
  ·(repeat' (first|with_reducible exact Below.refl _ _|with_reducible refine Below.drew ?_|with_reducible refine Below.alloc ?_ ?_ _|(simp;done)|(simp;omega)))
theorem Jt (v x f:Int) (t:Bool) (w:World) (h0:0<=v) (h1:v<65536) (x0:0<=x) (x1:x<=1) :
  Calls prog 305 #[.agg #[iv v,iv 16,iv x,iv f,.bool t]] w fun e w'=>e=.returned (.agg #[iv (nv 2 2 x v),iv 16,iv (nx 2 2 x v),iv (fell 2 2 v),.bool t])/\Below w.heap.size w w':=by
 obtain⟨b0,b1⟩:=dJ 2 v;have E1:Hid ((v*2%65536)=nv 2 2 x v):=aba (by simp only[nv,inn,fell,Pl.top,Int.reduceMod,Int.reduceEq,Int.reduceLE,Int.reduceDiv,if_true,if_false,or_self,or_true,true_or,or_false,false_or]<;>omega);have E2:Hid ((Pl.hi 2 v)=nx 2 2 x v):=aba (by simp only[nx,fell,Int.reduceMod,Int.reduceEq,if_true,if_false,or_self,or_true,true_or,or_false,false_or]);have E3:Hid ((Pl.hi 2 v)=fell 2 2 v):=aba (by simp only[fell,Int.reduceMod,Int.reduceEq,if_true,if_false]);go_enter func305,ntmps305;go_wp2_with (first|(go_at_call 311;refine(fJ _ _ _ _ _ ?h0 ?h1).mono ?_;(case h0=>omega);(case h1=>omega);rintro e w'⟨rfl,o6,rfl⟩)|(go_at_call 323;refine(lowest _ _ _ _ _ _).mono ?_;rintro e w'⟨rfl,o6,rfl⟩)|(go_at_call 320;refine(qp _ _ _ _ _ _ ?h0 ?h1 ?h2 ?h3).mono ?_;(case h0=>omega);(case h1=>omega);(case h2=>omega);(case h3=>omega);rintro e w'⟨rfl,o1,o2,o3,rfl⟩)|(go_at_call 321;refine(aW _ _ _ _ _ _).mono ?_;rintro e w'⟨rfl,o4,o5,rfl⟩))
 all_goals
  refine bodyPost_ret (v:=.agg #[iv (v*2%65536),iv 16,iv (Pl.hi 2 v),iv (Pl.hi 2 v),.bool t]) ?_ rfl ⟨?_,?_⟩
  ·rw[aT rfl];go_simp
  ·exact rA E1.o rfl E2.o E3.o rfl
  ·(repeat' (first|with_reducible exact Below.refl _ _|with_reducible refine Below.drew ?_|with_reducible refine Below.alloc ?_ ?_ _|(simp;done)|(simp;omega)))
theorem CU (v x f:Int) (t:Bool) (w:World) (h0:0<=v) (h1:v<65536) (x0:0<=x) (x1:x<=1) :
  Calls prog 306 #[.agg #[iv v,iv 16,iv x,iv f,.bool t]] w fun e w'=>e=.returned (.agg #[iv (nv 3 2 x v),iv 16,iv (nx 3 2 x v),iv (fell 3 2 v),.bool t])/\Below w.heap.size w w':=by
 obtain⟨b0,b1⟩:=dJ 2 v;have E1:Hid ((v/2)=nv 3 2 x v):=aba (by simp only[nv,inn,fell,Pl.top,Int.reduceMod,Int.reduceEq,Int.reduceLE,Int.reduceDiv,if_true,if_false,or_self,or_true,true_or,or_false,false_or]<;>omega);have E2:Hid ((v%2)=nx 3 2 x v):=aba (by simp only[nx,fell,Int.reduceMod,Int.reduceEq,if_true,if_false,or_self,or_true,true_or,or_false,false_or]);have E3:Hid ((v%2)=fell 3 2 v):=aba (by simp only[fell,Int.reduceMod,Int.reduceEq,if_true,if_false]);go_enter func306,ntmps306;go_wp2_with (first|(go_at_call 311;refine(fJ _ _ _ _ _ ?h0 ?h1).mono ?_;(case h0=>omega);(case h1=>omega);rintro e w'⟨rfl,o6,rfl⟩)|(go_at_call 323;refine(lowest _ _ _ _ _ _).mono ?_;rintro e w'⟨rfl,o6,rfl⟩)|(go_at_call 322;refine(kS _ _ _ _ _ _ ?h0 ?h1 ?h2 ?h3).mono ?_;(case h0=>omega);(case h1=>omega);(case h2=>omega);(case h3=>omega);rintro e w'⟨rfl,o1,o2,o3,rfl⟩)|(go_at_call 321;refine(aW _ _ _ _ _ _).mono ?_;rintro e w'⟨rfl,o4,o5,rfl⟩))
 all_goals
  refine bodyPost_ret (v:=.agg #[iv (v/2),iv 16,iv (v%2),iv (v%2),.bool t]) ?_ rfl ⟨?_,?_⟩
  ·rw[aT rfl];go_simp
  ·exact rA E1.o rfl E2.o E3.o rfl
  ·(repeat' (first|with_reducible exact Below.refl _ _|with_reducible refine Below.drew ?_|with_reducible refine Below.alloc ?_ ?_ _|(simp;done)|(simp;omega)))
theorem Oy (v x f:Int) (t:Bool) (w:World) (h0:0<=v) (h1:v<65536) (x0:0<=x) (x1:x<=1) :
  Calls prog 307 #[.agg #[iv v,iv 16,iv x,iv f,.bool t]] w fun e w'=>e=.returned (.agg #[iv (nv 4 2 x v),iv 16,iv (nx 4 2 x v),iv (fell 4 2 v),.bool t])/\Below w.heap.size w w':=by
 obtain⟨b0,b1⟩:=dJ 2 v;have E1:Hid ((v*2%65536+Pl.hi 2 v)=nv 4 2 x v):=aba (by simp only[nv,inn,fell,Pl.top,Int.reduceMod,Int.reduceEq,Int.reduceLE,Int.reduceDiv,if_true,if_false,or_self,or_true,true_or,or_false,false_or]<;>omega);have E2:Hid (x=nx 4 2 x v):=aba (by simp only[nx,fell,Int.reduceMod,Int.reduceEq,if_true,if_false,or_self,or_true,true_or,or_false,false_or]);have E3:Hid ((Pl.hi 2 v)=fell 4 2 v):=aba (by simp only[fell,Int.reduceMod,Int.reduceEq,if_true,if_false]);go_enter func307,ntmps307;go_wp2_with (first|(go_at_call 311;refine(fJ _ _ _ _ _ ?h0 ?h1).mono ?_;(case h0=>omega);(case h1=>omega);rintro e w'⟨rfl,o6,rfl⟩)|(go_at_call 323;refine(lowest _ _ _ _ _ _).mono ?_;rintro e w'⟨rfl,o6,rfl⟩)|(go_at_call 320;refine(qp _ _ _ _ _ _ ?h0 ?h1 ?h2 ?h3).mono ?_;(case h0=>omega);(case h1=>omega);(case h2=>omega);(case h3=>omega);rintro e w'⟨rfl,o1,o2,o3,rfl⟩)|(go_at_call 321;refine(aW _ _ _ _ _ _).mono ?_;rintro e w'⟨rfl,o4,o5,rfl⟩));go_region_with (first|(go_at_call 311;refine(fJ _ _ _ _ _ ?h0 ?h1).mono ?_;(case h0=>omega);(case h1=>omega);rintro e w'⟨rfl,o6,rfl⟩)|(go_at_call 323;refine(lowest _ _ _ _ _ _).mono ?_;rintro e w'⟨rfl,o6,rfl⟩)|(go_at_call 320;refine(qp _ _ _ _ _ _ ?h0 ?h1 ?h2 ?h3).mono ?_;(case h0=>omega);(case h1=>omega);(case h2=>omega);(case h3=>omega);rintro e w'⟨rfl,o1,o2,o3,rfl⟩)|(go_at_call 321;refine(aW _ _ _ _ _ _).mono ?_;rintro e w'⟨rfl,o4,o5,rfl⟩))
 all_goals go_wp2_with fail
 all_goals
  refine bodyPost_ret (v:=.agg #[iv (v*2%65536+Pl.hi 2 v),iv 16,iv x,iv (Pl.hi 2 v),.bool t]) ?_ rfl ⟨?_,?_⟩
  ·rw[aT rfl];go_simp
  ·exact rA E1.o rfl E2.o E3.o rfl
  ·(repeat' (first|with_reducible exact Below.refl _ _|with_reducible refine Below.drew ?_|with_reducible refine Below.alloc ?_ ?_ _|(simp;done)|(simp;omega)))
theorem FQ (v x f:Int) (t:Bool) (w:World) (h0:0<=v) (h1:v<65536) (x0:0<=x) (x1:x<=1) :
  Calls prog 308 #[.agg #[iv v,iv 16,iv x,iv f,.bool t]] w fun e w'=>e=.returned (.agg #[iv (nv 5 2 x v),iv 16,iv (nx 5 2 x v),iv (fell 5 2 v),.bool t])/\Below w.heap.size w w':=by
 obtain⟨b0,b1⟩:=dJ 2 v;have E1:Hid ((v/2+v%2*32768)=nv 5 2 x v):=aba (by simp only[nv,inn,fell,Pl.top,Int.reduceMod,Int.reduceEq,Int.reduceLE,Int.reduceDiv,if_true,if_false,or_self,or_true,true_or,or_false,false_or]<;>omega);have E2:Hid (x=nx 5 2 x v):=aba (by simp only[nx,fell,Int.reduceMod,Int.reduceEq,if_true,if_false,or_self,or_true,true_or,or_false,false_or]);have E3:Hid ((v%2)=fell 5 2 v):=aba (by simp only[fell,Int.reduceMod,Int.reduceEq,if_true,if_false]);go_enter func308,ntmps308;go_wp2_with (first|(go_at_call 311;refine(fJ _ _ _ _ _ ?h0 ?h1).mono ?_;(case h0=>omega);(case h1=>omega);rintro e w'⟨rfl,o6,rfl⟩)|(go_at_call 323;refine(lowest _ _ _ _ _ _).mono ?_;rintro e w'⟨rfl,o6,rfl⟩)|(go_at_call 322;refine(kS _ _ _ _ _ _ ?h0 ?h1 ?h2 ?h3).mono ?_;(case h0=>omega);(case h1=>omega);(case h2=>omega);(case h3=>omega);rintro e w'⟨rfl,o1,o2,o3,rfl⟩)|(go_at_call 321;refine(aW _ _ _ _ _ _).mono ?_;rintro e w'⟨rfl,o4,o5,rfl⟩));go_region_with (first|(go_at_call 311;refine(fJ _ _ _ _ _ ?h0 ?h1).mono ?_;(case h0=>omega);(case h1=>omega);rintro e w'⟨rfl,o6,rfl⟩)|(go_at_call 323;refine(lowest _ _ _ _ _ _).mono ?_;rintro e w'⟨rfl,o6,rfl⟩)|(go_at_call 322;refine(kS _ _ _ _ _ _ ?h0 ?h1 ?h2 ?h3).mono ?_;(case h0=>omega);(case h1=>omega);(case h2=>omega);(case h3=>omega);rintro e w'⟨rfl,o1,o2,o3,rfl⟩)|(go_at_call 321;refine(aW _ _ _ _ _ _).mono ?_;rintro e w'⟨rfl,o4,o5,rfl⟩))
 all_goals go_wp2_with fail
 all_goals
  refine bodyPost_ret (v:=.agg #[iv (v/2+v%2*32768),iv 16,iv x,iv (v%2),.bool t]) ?_ rfl ⟨?_,?_⟩
  ·rw[aT rfl];go_simp
  ·exact rA E1.o rfl E2.o E3.o rfl
  ·(repeat' (first|with_reducible exact Below.refl _ _|with_reducible refine Below.drew ?_|with_reducible refine Below.alloc ?_ ?_ _|(simp;done)|(simp;omega)))
theorem oK (v x f:Int) (t:Bool) (w:World) (h0:0<=v) (h1:v<65536) (x0:0<=x) (x1:x<=1) :
  Calls prog 309 #[.agg #[iv v,iv 16,iv x,iv f,.bool t]] w fun e w'=>e=.returned (.agg #[iv (nv 6 2 x v),iv 16,iv (nx 6 2 x v),iv (fell 6 2 v),.bool t])/\Below w.heap.size w w':=by
 obtain⟨b0,b1⟩:=dJ 2 v;have E1:Hid ((v*2%65536+x)=nv 6 2 x v):=aba (by simp only[nv,inn,fell,Pl.top,Int.reduceMod,Int.reduceEq,Int.reduceLE,Int.reduceDiv,if_true,if_false,or_self,or_true,true_or,or_false,false_or]<;>omega);have E2:Hid ((Pl.hi 2 v)=nx 6 2 x v):=aba (by simp only[nx,fell,Int.reduceMod,Int.reduceEq,if_true,if_false,or_self,or_true,true_or,or_false,false_or]);have E3:Hid ((Pl.hi 2 v)=fell 6 2 v):=aba (by simp only[fell,Int.reduceMod,Int.reduceEq,if_true,if_false]);go_enter func309,ntmps309;go_wp2_with (first|(go_at_call 311;refine(fJ _ _ _ _ _ ?h0 ?h1).mono ?_;(case h0=>omega);(case h1=>omega);rintro e w'⟨rfl,o6,rfl⟩)|(go_at_call 323;refine(lowest _ _ _ _ _ _).mono ?_;rintro e w'⟨rfl,o6,rfl⟩)|(go_at_call 320;refine(qp _ _ _ _ _ _ ?h0 ?h1 ?h2 ?h3).mono ?_;(case h0=>omega);(case h1=>omega);(case h2=>omega);(case h3=>omega);rintro e w'⟨rfl,o1,o2,o3,rfl⟩)|(go_at_call 321;refine(aW _ _ _ _ _ _).mono ?_;rintro e w'⟨rfl,o4,o5,rfl⟩))
 all_goals
  refine bodyPost_ret (v:=.agg #[iv (v*2%65536+x),iv 16,iv (Pl.hi 2 v),iv (Pl.hi 2 v),.bool t]) ?_ rfl ⟨?_,?_⟩
  ·rw[aT rfl];go_simp
  ·exact rA E1.o rfl E2.o E3.o rfl
  ·(repeat' (first|with_reducible exact Below.refl _ _|with_reducible refine Below.drew ?_|with_reducible refine Below.alloc ?_ ?_ _|(simp;done)|(simp;omega)))
theorem ny (v x f:Int) (t:Bool) (w:World) (h0:0<=v) (h1:v<65536) (x0:0<=x) (x1:x<=1) :
  Calls prog 310 #[.agg #[iv v,iv 16,iv x,iv f,.bool t]] w fun e w'=>e=.returned (.agg #[iv (nv 7 2 x v),iv 16,iv (nx 7 2 x v),iv (fell 7 2 v),.bool t])/\Below w.heap.size w w':=by
 obtain⟨b0,b1⟩:=dJ 2 v;have E1:Hid ((v/2+x*32768)=nv 7 2 x v):=aba (by simp only[nv,inn,fell,Pl.top,Int.reduceMod,Int.reduceEq,Int.reduceLE,Int.reduceDiv,if_true,if_false,or_self,or_true,true_or,or_false,false_or]<;>omega);have E2:Hid ((v%2)=nx 7 2 x v):=aba (by simp only[nx,fell,Int.reduceMod,Int.reduceEq,if_true,if_false,or_self,or_true,true_or,or_false,false_or]);have E3:Hid ((v%2)=fell 7 2 v):=aba (by simp only[fell,Int.reduceMod,Int.reduceEq,if_true,if_false]);go_enter func310,ntmps310;go_wp2_with (first|(go_at_call 311;refine(fJ _ _ _ _ _ ?h0 ?h1).mono ?_;(case h0=>omega);(case h1=>omega);rintro e w'⟨rfl,o6,rfl⟩)|(go_at_call 323;refine(lowest _ _ _ _ _ _).mono ?_;rintro e w'⟨rfl,o6,rfl⟩)|(go_at_call 322;refine(kS _ _ _ _ _ _ ?h0 ?h1 ?h2 ?h3).mono ?_;(case h0=>omega);(case h1=>omega);(case h2=>omega);(case h3=>omega);rintro e w'⟨rfl,o1,o2,o3,rfl⟩)|(go_at_call 321;refine(aW _ _ _ _ _ _).mono ?_;rintro e w'⟨rfl,o4,o5,rfl⟩))
 all_goals
  refine bodyPost_ret (v:=.agg #[iv (v/2+x*32768),iv 16,iv (v%2),iv (v%2),.bool t]) ?_ rfl ⟨?_,?_⟩
  ·rw[aT rfl];go_simp
  ·exact rA E1.o rfl E2.o E3.o rfl
  ·(repeat' (first|with_reducible exact Below.refl _ _|with_reducible refine Below.drew ?_|with_reducible refine Below.alloc ?_ ?_ _|(simp;done)|(simp;omega)))
set_option linter.unusedSimpArgs false
theorem zo (s v x f W:Int) (t:Bool) (w:World) (h:Pl.Fit s (v,x)) (hW:W=8*s) :
  Calls prog 303 #[.agg #[iv v,iv W,iv x,iv f,.bool t]] w fun e w'=>e=.returned (.agg #[iv (nv 0 s x v),iv W,iv (nx 0 s x v),iv (fell 0 s v),.bool (vfl 0 s x v)])/\Below w.heap.size w w':=by
 obtain⟨hs,v0,v1,x0,x1⟩:=h;simp only at v0 v1 x0 x1;subst hW;rcases nV hs with⟨rfl,e⟩|⟨rfl,e⟩<;>rw[e]at v1
 ·exact xm v x f t w v0 v1 x0 x1
 ·exact xk v x f t w v0 v1 x0 x1
theorem wW (s v x f W:Int) (t:Bool) (w:World) (h:Pl.Fit s (v,x)) (hW:W=8*s) :
  Calls prog 304 #[.agg #[iv v,iv W,iv x,iv f,.bool t]] w fun e w'=>e=.returned (.agg #[iv (nv 1 s x v),iv W,iv (nx 1 s x v),iv (fell 1 s v),.bool t])/\Below w.heap.size w w':=by
 obtain⟨hs,v0,v1,x0,x1⟩:=h;simp only at v0 v1 x0 x1;subst hW;rcases nV hs with⟨rfl,e⟩|⟨rfl,e⟩<;>rw[e]at v1
 ·exact uI v x f t w v0 v1 x0 x1
 ·exact uH v x f t w v0 v1 x0 x1
theorem PL (s v x f W:Int) (t:Bool) (w:World) (h:Pl.Fit s (v,x)) (hW:W=8*s) :
  Calls prog 305 #[.agg #[iv v,iv W,iv x,iv f,.bool t]] w fun e w'=>e=.returned (.agg #[iv (nv 2 s x v),iv W,iv (nx 2 s x v),iv (fell 2 s v),.bool t])/\Below w.heap.size w w':=by
 obtain⟨hs,v0,v1,x0,x1⟩:=h;simp only at v0 v1 x0 x1;subst hW;rcases nV hs with⟨rfl,e⟩|⟨rfl,e⟩<;>rw[e]at v1
 ·exact Ju v x f t w v0 v1 x0 x1
 ·exact Jt v x f t w v0 v1 x0 x1
theorem Gm (s v x f W:Int) (t:Bool) (w:World) (h:Pl.Fit s (v,x)) (hW:W=8*s) :
  Calls prog 306 #[.agg #[iv v,iv W,iv x,iv f,.bool t]] w fun e w'=>e=.returned (.agg #[iv (nv 3 s x v),iv W,iv (nx 3 s x v),iv (fell 3 s v),.bool t])/\Below w.heap.size w w':=by
 obtain⟨hs,v0,v1,x0,x1⟩:=h;simp only at v0 v1 x0 x1;subst hW;rcases nV hs with⟨rfl,e⟩|⟨rfl,e⟩<;>rw[e]at v1
 ·exact CV v x f t w v0 v1 x0 x1
 ·exact CU v x f t w v0 v1 x0 x1
theorem Ud (s v x f W:Int) (t:Bool) (w:World) (h:Pl.Fit s (v,x)) (hW:W=8*s) :
  Calls prog 307 #[.agg #[iv v,iv W,iv x,iv f,.bool t]] w fun e w'=>e=.returned (.agg #[iv (nv 4 s x v),iv W,iv (nx 4 s x v),iv (fell 4 s v),.bool t])/\Below w.heap.size w w':=by
 obtain⟨hs,v0,v1,x0,x1⟩:=h;simp only at v0 v1 x0 x1;subst hW;rcases nV hs with⟨rfl,e⟩|⟨rfl,e⟩<;>rw[e]at v1
 ·exact Oz v x f t w v0 v1 x0 x1
 ·exact Oy v x f t w v0 v1 x0 x1
theorem IA (s v x f W:Int) (t:Bool) (w:World) (h:Pl.Fit s (v,x)) (hW:W=8*s) :
  Calls prog 308 #[.agg #[iv v,iv W,iv x,iv f,.bool t]] w fun e w'=>e=.returned (.agg #[iv (nv 5 s x v),iv W,iv (nx 5 s x v),iv (fell 5 s v),.bool t])/\Below w.heap.size w w':=by
 obtain⟨hs,v0,v1,x0,x1⟩:=h;simp only at v0 v1 x0 x1;subst hW;rcases nV hs with⟨rfl,e⟩|⟨rfl,e⟩<;>rw[e]at v1
 ·exact FT v x f t w v0 v1 x0 x1
 ·exact FQ v x f t w v0 v1 x0 x1
theorem qF (s v x f W:Int) (t:Bool) (w:World) (h:Pl.Fit s (v,x)) (hW:W=8*s) :
  Calls prog 309 #[.agg #[iv v,iv W,iv x,iv f,.bool t]] w fun e w'=>e=.returned (.agg #[iv (nv 6 s x v),iv W,iv (nx 6 s x v),iv (fell 6 s v),.bool t])/\Below w.heap.size w w':=by
 obtain⟨hs,v0,v1,x0,x1⟩:=h;simp only at v0 v1 x0 x1;subst hW;rcases nV hs with⟨rfl,e⟩|⟨rfl,e⟩<;>rw[e]at v1
 ·exact oL v x f t w v0 v1 x0 x1
 ·exact oK v x f t w v0 v1 x0 x1
theorem oh (s v x f W:Int) (t:Bool) (w:World) (h:Pl.Fit s (v,x)) (hW:W=8*s) :
  Calls prog 310 #[.agg #[iv v,iv W,iv x,iv f,.bool t]] w fun e w'=>e=.returned (.agg #[iv (nv 7 s x v),iv W,iv (nx 7 s x v),iv (fell 7 s v),.bool t])/\Below w.heap.size w w':=by
 obtain⟨hs,v0,v1,x0,x1⟩:=h;simp only at v0 v1 x0 x1;subst hW;rcases nV hs with⟨rfl,e⟩|⟨rfl,e⟩<;>rw[e]at v1
 ·exact nz v x f t w v0 v1 x0 x1
 ·exact ny v x f t w v0 v1 x0 x1
theorem UO (s v x f W:Int) (t:Bool) (w:World) (h:Pl.Fit s (v,x)) (hW:W=8*s) :
  Calls prog 281 #[.agg #[iv v,iv W,iv x,iv f,.bool t],iv 0] w fun e w'=>e=.returned (.agg #[iv (nv 0 s x v),iv W,iv (nx 0 s x v),iv (fell 0 s v),.bool (vfl 0 s x v)])/\Below w.heap.size w w':=by
 have hst:=iE;have E4:Hid (vfl 0 s x v=vfl 0 s x v):=aba (by rfl);have HF:=aba h;have HWW:=aba hW;clear h hW;go_enter func281,ntmps281;go_wp2_with fail;clear hst;obtain⟨X,hX⟩:∃X:World,X=(((w.alloc (.cells #[iv v,iv W,iv x,iv f,.bool t] 273)).alloc (.cells ftZ 273)).alloc (.cells #[.func (.func 303) #[] #[],.func (.func 304) #[] #[],.func (.func 305) #[] #[],.func (.func 306) #[] #[],.func (.func 307) #[] #[],.func (.func 308) #[] #[],.func (.func 309) #[] #[],.func (.func 310) #[] #[]] 291)):=⟨_,rfl⟩
 rw[<-hX];have B1:Box X w.heap.size v W x f t:=by rw[hX];exact Box.zZ _ _ _ _ _ _ _ _
 have B2:Box X (w.heap.size+1) 0 0 0 0 false:=by rw[hX];exact Box.zY _ _ _ _ _ _ _ _
 have hF:X.cell? (abb (w.heap.size+1+1) 0)=some (.func (.func 303) #[] #[]):=by rw[hX];go_simp
 have HX:Hid (Below w.heap.size w X):=aba (by rw[hX];exact(((Below.refl _ _).alloc (by simp) _).alloc (by simp) _).alloc (by simp<;>omega) _);clear hX;obtain⟨a0,a1,a2,a3,a4,_,_,_,_,_⟩:=B1.cells;have HB2:=aba B2;clear B1 B2;go_region_with (go_at_call 303;refine(zo s v x f W t _ HF.o HWW.o).mono ?_;rintro e wt⟨rfl,hb0⟩;have hb:=oJ hb0;clear hb0;have HBt:=aba (HB2.o.later hb);obtain⟨c0,c1,c2,c3,c4,g0,g1,g2,g3,g4⟩:=HBt.o.cells;have HB:=aba hb;clear hb a0 a1 a2 a3 a4 hF)
 all_goals
  go_wp2_with fail;refine bodyPost_ret (v:=.agg #[iv (nv 0 s x v),iv W,iv (nx 0 s x v),iv (fell 0 s v),.bool (vfl 0 s x v)]) ?_ rfl ⟨?_,?_⟩
  ·exact gJ rfl _ rfl (HBt.o.set)
  ·exact rA rfl rfl rfl rfl rfl
  ·exact(((((HX.o.trans (HB.o.mono HX.o.size)).setCell (by simp) _).setCell (by simp) _).setCell (by simp) _).setCell (by simp) _).setCell (by simp) _
theorem UN (s v x f W:Int) (w:World) (h:Pl.Fit s (v,x)) (hW:W=8*s) :
  Calls prog 281 #[.agg #[iv v,iv W,iv x,iv f,.bool false],iv 1] w fun e w'=>e=.returned (.agg #[iv (nv 1 s x v),iv W,iv (nx 1 s x v),iv (fell 1 s v),.bool (vfl 1 s x v)])/\Below w.heap.size w w':=by
 have hst:=iE;have E4:Hid (false=vfl 1 s x v):=aba (by simp[vfl]);have HF:=aba h;have HWW:=aba hW;clear h hW;go_enter func281,ntmps281;go_wp2_with fail;clear hst;obtain⟨X,hX⟩:∃X:World,X=(((w.alloc (.cells #[iv v,iv W,iv x,iv f,.bool false] 273)).alloc (.cells ftZ 273)).alloc (.cells #[.func (.func 303) #[] #[],.func (.func 304) #[] #[],.func (.func 305) #[] #[],.func (.func 306) #[] #[],.func (.func 307) #[] #[],.func (.func 308) #[] #[],.func (.func 309) #[] #[],.func (.func 310) #[] #[]] 291)):=⟨_,rfl⟩
 rw[<-hX];have B1:Box X w.heap.size v W x f false:=by rw[hX];exact Box.zZ _ _ _ _ _ _ _ _
 have B2:Box X (w.heap.size+1) 0 0 0 0 false:=by rw[hX];exact Box.zY _ _ _ _ _ _ _ _
 have hF:X.cell? (abb (w.heap.size+1+1) 1)=some (.func (.func 304) #[] #[]):=by rw[hX];go_simp
 have HX:Hid (Below w.heap.size w X):=aba (by rw[hX];exact(((Below.refl _ _).alloc (by simp) _).alloc (by simp) _).alloc (by simp<;>omega) _);clear hX;obtain⟨a0,a1,a2,a3,a4,_,_,_,_,_⟩:=B1.cells;have HB2:=aba B2;clear B1 B2;go_region_with (go_at_call 304;refine(wW s v x f W false _ HF.o HWW.o).mono ?_;rintro e wt⟨rfl,hb0⟩;have hb:=oJ hb0;clear hb0;have HBt:=aba (HB2.o.later hb);obtain⟨c0,c1,c2,c3,c4,g0,g1,g2,g3,g4⟩:=HBt.o.cells;have HB:=aba hb;clear hb a0 a1 a2 a3 a4 hF)
 all_goals
  go_wp2_with fail;refine bodyPost_ret (v:=.agg #[iv (nv 1 s x v),iv W,iv (nx 1 s x v),iv (fell 1 s v),.bool false]) ?_ rfl ⟨?_,?_⟩
  ·exact gJ rfl _ rfl (HBt.o.set)
  ·exact rA rfl rfl rfl rfl E4.o
  ·exact(((((HX.o.trans (HB.o.mono HX.o.size)).setCell (by simp) _).setCell (by simp) _).setCell (by simp) _).setCell (by simp) _).setCell (by simp) _
theorem UM (s v x f W:Int) (w:World) (h:Pl.Fit s (v,x)) (hW:W=8*s) :
  Calls prog 281 #[.agg #[iv v,iv W,iv x,iv f,.bool false],iv 2] w fun e w'=>e=.returned (.agg #[iv (nv 2 s x v),iv W,iv (nx 2 s x v),iv (fell 2 s v),.bool (vfl 2 s x v)])/\Below w.heap.size w w':=by
 have hst:=iE;have E4:Hid (false=vfl 2 s x v):=aba (by simp[vfl]);have HF:=aba h;have HWW:=aba hW;clear h hW;go_enter func281,ntmps281;go_wp2_with fail;clear hst;obtain⟨X,hX⟩:∃X:World,X=(((w.alloc (.cells #[iv v,iv W,iv x,iv f,.bool false] 273)).alloc (.cells ftZ 273)).alloc (.cells #[.func (.func 303) #[] #[],.func (.func 304) #[] #[],.func (.func 305) #[] #[],.func (.func 306) #[] #[],.func (.func 307) #[] #[],.func (.func 308) #[] #[],.func (.func 309) #[] #[],.func (.func 310) #[] #[]] 291)):=⟨_,rfl⟩
 rw[<-hX];have B1:Box X w.heap.size v W x f false:=by rw[hX];exact Box.zZ _ _ _ _ _ _ _ _
 have B2:Box X (w.heap.size+1) 0 0 0 0 false:=by rw[hX];exact Box.zY _ _ _ _ _ _ _ _
 have hF:X.cell? (abb (w.heap.size+1+1) 2)=some (.func (.func 305) #[] #[]):=by rw[hX];go_simp
 have HX:Hid (Below w.heap.size w X):=aba (by rw[hX];exact(((Below.refl _ _).alloc (by simp) _).alloc (by simp) _).alloc (by simp<;>omega) _);clear hX;obtain⟨a0,a1,a2,a3,a4,_,_,_,_,_⟩:=B1.cells;have HB2:=aba B2;clear B1 B2;go_region_with (go_at_call 305;refine(PL s v x f W false _ HF.o HWW.o).mono ?_;rintro e wt⟨rfl,hb0⟩;have hb:=oJ hb0;clear hb0;have HBt:=aba (HB2.o.later hb);obtain⟨c0,c1,c2,c3,c4,g0,g1,g2,g3,g4⟩:=HBt.o.cells;have HB:=aba hb;clear hb a0 a1 a2 a3 a4 hF)
 all_goals
  go_wp2_with fail;refine bodyPost_ret (v:=.agg #[iv (nv 2 s x v),iv W,iv (nx 2 s x v),iv (fell 2 s v),.bool false]) ?_ rfl ⟨?_,?_⟩
  ·exact gJ rfl _ rfl (HBt.o.set)
  ·exact rA rfl rfl rfl rfl E4.o
  ·exact(((((HX.o.trans (HB.o.mono HX.o.size)).setCell (by simp) _).setCell (by simp) _).setCell (by simp) _).setCell (by simp) _).setCell (by simp) _
theorem UL (s v x f W:Int) (w:World) (h:Pl.Fit s (v,x)) (hW:W=8*s) :
  Calls prog 281 #[.agg #[iv v,iv W,iv x,iv f,.bool false],iv 3] w fun e w'=>e=.returned (.agg #[iv (nv 3 s x v),iv W,iv (nx 3 s x v),iv (fell 3 s v),.bool (vfl 3 s x v)])/\Below w.heap.size w w':=by
 have hst:=iE;have E4:Hid (false=vfl 3 s x v):=aba (by simp[vfl]);have HF:=aba h;have HWW:=aba hW;clear h hW;go_enter func281,ntmps281;go_wp2_with fail;clear hst;obtain⟨X,hX⟩:∃X:World,X=(((w.alloc (.cells #[iv v,iv W,iv x,iv f,.bool false] 273)).alloc (.cells ftZ 273)).alloc (.cells #[.func (.func 303) #[] #[],.func (.func 304) #[] #[],.func (.func 305) #[] #[],.func (.func 306) #[] #[],.func (.func 307) #[] #[],.func (.func 308) #[] #[],.func (.func 309) #[] #[],.func (.func 310) #[] #[]] 291)):=⟨_,rfl⟩
 rw[<-hX];have B1:Box X w.heap.size v W x f false:=by rw[hX];exact Box.zZ _ _ _ _ _ _ _ _
 have B2:Box X (w.heap.size+1) 0 0 0 0 false:=by rw[hX];exact Box.zY _ _ _ _ _ _ _ _
 have hF:X.cell? (abb (w.heap.size+1+1) 3)=some (.func (.func 306) #[] #[]):=by rw[hX];go_simp
 have HX:Hid (Below w.heap.size w X):=aba (by rw[hX];exact(((Below.refl _ _).alloc (by simp) _).alloc (by simp) _).alloc (by simp<;>omega) _);clear hX;obtain⟨a0,a1,a2,a3,a4,_,_,_,_,_⟩:=B1.cells;have HB2:=aba B2;clear B1 B2;go_region_with (go_at_call 306;refine(Gm s v x f W false _ HF.o HWW.o).mono ?_;rintro e wt⟨rfl,hb0⟩;have hb:=oJ hb0;clear hb0;have HBt:=aba (HB2.o.later hb);obtain⟨c0,c1,c2,c3,c4,g0,g1,g2,g3,g4⟩:=HBt.o.cells;have HB:=aba hb;clear hb a0 a1 a2 a3 a4 hF)
 all_goals
  go_wp2_with fail;refine bodyPost_ret (v:=.agg #[iv (nv 3 s x v),iv W,iv (nx 3 s x v),iv (fell 3 s v),.bool false]) ?_ rfl ⟨?_,?_⟩
  ·exact gJ rfl _ rfl (HBt.o.set)
  ·exact rA rfl rfl rfl rfl E4.o
  ·exact(((((HX.o.trans (HB.o.mono HX.o.size)).setCell (by simp) _).setCell (by simp) _).setCell (by simp) _).setCell (by simp) _).setCell (by simp) _
theorem UK (s v x f W:Int) (w:World) (h:Pl.Fit s (v,x)) (hW:W=8*s) :
  Calls prog 281 #[.agg #[iv v,iv W,iv x,iv f,.bool false],iv 4] w fun e w'=>e=.returned (.agg #[iv (nv 4 s x v),iv W,iv (nx 4 s x v),iv (fell 4 s v),.bool (vfl 4 s x v)])/\Below w.heap.size w w':=by
 have hst:=iE;have E4:Hid (false=vfl 4 s x v):=aba (by simp[vfl]);have HF:=aba h;have HWW:=aba hW;clear h hW;go_enter func281,ntmps281;go_wp2_with fail;clear hst;obtain⟨X,hX⟩:∃X:World,X=(((w.alloc (.cells #[iv v,iv W,iv x,iv f,.bool false] 273)).alloc (.cells ftZ 273)).alloc (.cells #[.func (.func 303) #[] #[],.func (.func 304) #[] #[],.func (.func 305) #[] #[],.func (.func 306) #[] #[],.func (.func 307) #[] #[],.func (.func 308) #[] #[],.func (.func 309) #[] #[],.func (.func 310) #[] #[]] 291)):=⟨_,rfl⟩
 rw[<-hX];have B1:Box X w.heap.size v W x f false:=by rw[hX];exact Box.zZ _ _ _ _ _ _ _ _
 have B2:Box X (w.heap.size+1) 0 0 0 0 false:=by rw[hX];exact Box.zY _ _ _ _ _ _ _ _
 have hF:X.cell? (abb (w.heap.size+1+1) 4)=some (.func (.func 307) #[] #[]):=by rw[hX];go_simp
 have HX:Hid (Below w.heap.size w X):=aba (by rw[hX];exact(((Below.refl _ _).alloc (by simp) _).alloc (by simp) _).alloc (by simp<;>omega) _);clear hX;obtain⟨a0,a1,a2,a3,a4,_,_,_,_,_⟩:=B1.cells;have HB2:=aba B2;clear B1 B2;go_region_with (go_at_call 307;refine(Ud s v x f W false _ HF.o HWW.o).mono ?_;rintro e wt⟨rfl,hb0⟩;have hb:=oJ hb0;clear hb0;have HBt:=aba (HB2.o.later hb);obtain⟨c0,c1,c2,c3,c4,g0,g1,g2,g3,g4⟩:=HBt.o.cells;have HB:=aba hb;clear hb a0 a1 a2 a3 a4 hF)
 all_goals
  go_wp2_with fail;refine bodyPost_ret (v:=.agg #[iv (nv 4 s x v),iv W,iv (nx 4 s x v),iv (fell 4 s v),.bool false]) ?_ rfl ⟨?_,?_⟩
  ·exact gJ rfl _ rfl (HBt.o.set)
  ·exact rA rfl rfl rfl rfl E4.o
  ·exact(((((HX.o.trans (HB.o.mono HX.o.size)).setCell (by simp) _).setCell (by simp) _).setCell (by simp) _).setCell (by simp) _).setCell (by simp) _
theorem UJ (s v x f W:Int) (w:World) (h:Pl.Fit s (v,x)) (hW:W=8*s) :
  Calls prog 281 #[.agg #[iv v,iv W,iv x,iv f,.bool false],iv 5] w fun e w'=>e=.returned (.agg #[iv (nv 5 s x v),iv W,iv (nx 5 s x v),iv (fell 5 s v),.bool (vfl 5 s x v)])/\Below w.heap.size w w':=by
 have hst:=iE;have E4:Hid (false=vfl 5 s x v):=aba (by simp[vfl]);have HF:=aba h;have HWW:=aba hW;clear h hW;go_enter func281,ntmps281;go_wp2_with fail;clear hst;obtain⟨X,hX⟩:∃X:World,X=(((w.alloc (.cells #[iv v,iv W,iv x,iv f,.bool false] 273)).alloc (.cells ftZ 273)).alloc (.cells #[.func (.func 303) #[] #[],.func (.func 304) #[] #[],.func (.func 305) #[] #[],.func (.func 306) #[] #[],.func (.func 307) #[] #[],.func (.func 308) #[] #[],.func (.func 309) #[] #[],.func (.func 310) #[] #[]] 291)):=⟨_,rfl⟩
 rw[<-hX];have B1:Box X w.heap.size v W x f false:=by rw[hX];exact Box.zZ _ _ _ _ _ _ _ _
 have B2:Box X (w.heap.size+1) 0 0 0 0 false:=by rw[hX];exact Box.zY _ _ _ _ _ _ _ _
 have hF:X.cell? (abb (w.heap.size+1+1) 5)=some (.func (.func 308) #[] #[]):=by rw[hX];go_simp
 have HX:Hid (Below w.heap.size w X):=aba (by rw[hX];exact(((Below.refl _ _).alloc (by simp) _).alloc (by simp) _).alloc (by simp<;>omega) _);clear hX;obtain⟨a0,a1,a2,a3,a4,_,_,_,_,_⟩:=B1.cells;have HB2:=aba B2;clear B1 B2;go_region_with (go_at_call 308;refine(IA s v x f W false _ HF.o HWW.o).mono ?_;rintro e wt⟨rfl,hb0⟩;have hb:=oJ hb0;clear hb0;have HBt:=aba (HB2.o.later hb);obtain⟨c0,c1,c2,c3,c4,g0,g1,g2,g3,g4⟩:=HBt.o.cells;have HB:=aba hb;clear hb a0 a1 a2 a3 a4 hF)
 all_goals
  go_wp2_with fail;refine bodyPost_ret (v:=.agg #[iv (nv 5 s x v),iv W,iv (nx 5 s x v),iv (fell 5 s v),.bool false]) ?_ rfl ⟨?_,?_⟩
  ·exact gJ rfl _ rfl (HBt.o.set)
  ·exact rA rfl rfl rfl rfl E4.o
  ·exact(((((HX.o.trans (HB.o.mono HX.o.size)).setCell (by simp) _).setCell (by simp) _).setCell (by simp) _).setCell (by simp) _).setCell (by simp) _
theorem UI (s v x f W:Int) (w:World) (h:Pl.Fit s (v,x)) (hW:W=8*s) :
  Calls prog 281 #[.agg #[iv v,iv W,iv x,iv f,.bool false],iv 6] w fun e w'=>e=.returned (.agg #[iv (nv 6 s x v),iv W,iv (nx 6 s x v),iv (fell 6 s v),.bool (vfl 6 s x v)])/\Below w.heap.size w w':=by
 have hst:=iE;have E4:Hid (false=vfl 6 s x v):=aba (by simp[vfl]);have HF:=aba h;have HWW:=aba hW;clear h hW;go_enter func281,ntmps281;go_wp2_with fail;clear hst;obtain⟨X,hX⟩:∃X:World,X=(((w.alloc (.cells #[iv v,iv W,iv x,iv f,.bool false] 273)).alloc (.cells ftZ 273)).alloc (.cells #[.func (.func 303) #[] #[],.func (.func 304) #[] #[],.func (.func 305) #[] #[],.func (.func 306) #[] #[],.func (.func 307) #[] #[],.func (.func 308) #[] #[],.func (.func 309) #[] #[],.func (.func 310) #[] #[]] 291)):=⟨_,rfl⟩
 rw[<-hX];have B1:Box X w.heap.size v W x f false:=by rw[hX];exact Box.zZ _ _ _ _ _ _ _ _
 have B2:Box X (w.heap.size+1) 0 0 0 0 false:=by rw[hX];exact Box.zY _ _ _ _ _ _ _ _
 have hF:X.cell? (abb (w.heap.size+1+1) 6)=some (.func (.func 309) #[] #[]):=by rw[hX];go_simp
 have HX:Hid (Below w.heap.size w X):=aba (by rw[hX];exact(((Below.refl _ _).alloc (by simp) _).alloc (by simp) _).alloc (by simp<;>omega) _);clear hX;obtain⟨a0,a1,a2,a3,a4,_,_,_,_,_⟩:=B1.cells;have HB2:=aba B2;clear B1 B2;go_region_with (go_at_call 309;refine(qF s v x f W false _ HF.o HWW.o).mono ?_;rintro e wt⟨rfl,hb0⟩;have hb:=oJ hb0;clear hb0;have HBt:=aba (HB2.o.later hb);obtain⟨c0,c1,c2,c3,c4,g0,g1,g2,g3,g4⟩:=HBt.o.cells;have HB:=aba hb;clear hb a0 a1 a2 a3 a4 hF)
 all_goals
  go_wp2_with fail;refine bodyPost_ret (v:=.agg #[iv (nv 6 s x v),iv W,iv (nx 6 s x v),iv (fell 6 s v),.bool false]) ?_ rfl ⟨?_,?_⟩
  ·exact gJ rfl _ rfl (HBt.o.set)
  ·exact rA rfl rfl rfl rfl E4.o
  ·exact(((((HX.o.trans (HB.o.mono HX.o.size)).setCell (by simp) _).setCell (by simp) _).setCell (by simp) _).setCell (by simp) _).setCell (by simp) _
theorem UH (s v x f W:Int) (w:World) (h:Pl.Fit s (v,x)) (hW:W=8*s) :
  Calls prog 281 #[.agg #[iv v,iv W,iv x,iv f,.bool false],iv 7] w fun e w'=>e=.returned (.agg #[iv (nv 7 s x v),iv W,iv (nx 7 s x v),iv (fell 7 s v),.bool (vfl 7 s x v)])/\Below w.heap.size w w':=by
 have hst:=iE;have E4:Hid (false=vfl 7 s x v):=aba (by simp[vfl]);have HF:=aba h;have HWW:=aba hW;clear h hW;go_enter func281,ntmps281;go_wp2_with fail;clear hst;obtain⟨X,hX⟩:∃X:World,X=(((w.alloc (.cells #[iv v,iv W,iv x,iv f,.bool false] 273)).alloc (.cells ftZ 273)).alloc (.cells #[.func (.func 303) #[] #[],.func (.func 304) #[] #[],.func (.func 305) #[] #[],.func (.func 306) #[] #[],.func (.func 307) #[] #[],.func (.func 308) #[] #[],.func (.func 309) #[] #[],.func (.func 310) #[] #[]] 291)):=⟨_,rfl⟩
 rw[<-hX];have B1:Box X w.heap.size v W x f false:=by rw[hX];exact Box.zZ _ _ _ _ _ _ _ _
 have B2:Box X (w.heap.size+1) 0 0 0 0 false:=by rw[hX];exact Box.zY _ _ _ _ _ _ _ _
 have hF:X.cell? (abb (w.heap.size+1+1) 7)=some (.func (.func 310) #[] #[]):=by rw[hX];go_simp
 have HX:Hid (Below w.heap.size w X):=aba (by rw[hX];exact(((Below.refl _ _).alloc (by simp) _).alloc (by simp) _).alloc (by simp<;>omega) _);clear hX;obtain⟨a0,a1,a2,a3,a4,_,_,_,_,_⟩:=B1.cells;have HB2:=aba B2;clear B1 B2;go_region_with (go_at_call 310;refine(oh s v x f W false _ HF.o HWW.o).mono ?_;rintro e wt⟨rfl,hb0⟩;have hb:=oJ hb0;clear hb0;have HBt:=aba (HB2.o.later hb);obtain⟨c0,c1,c2,c3,c4,g0,g1,g2,g3,g4⟩:=HBt.o.cells;have HB:=aba hb;clear hb a0 a1 a2 a3 a4 hF)
 all_goals
  go_wp2_with fail;refine bodyPost_ret (v:=.agg #[iv (nv 7 s x v),iv W,iv (nx 7 s x v),iv (fell 7 s v),.bool false]) ?_ rfl ⟨?_,?_⟩
  ·exact gJ rfl _ rfl (HBt.o.set)
  ·exact rA rfl rfl rfl rfl E4.o
  ·exact(((((HX.o.trans (HB.o.mono HX.o.size)).setCell (by simp) _).setCell (by simp) _).setCell (by simp) _).setCell (by simp) _).setCell (by simp) _
theorem moved (k s v x f W:Int) (t:Bool) (w:World) (k0:0<=k) (k1:k<=7) (h:Pl.Fit s (v,x)) (hW:W=8*s) (ht:k=0\/t=false) :
  Calls prog 281 #[.agg #[iv v,iv W,iv x,iv f,.bool t],iv k] w fun e w'=>e=.returned (.agg #[iv (nv k s x v),iv W,iv (nx k s x v),iv (fell k s v),.bool (vfl k s x v)])/\Below w.heap.size w w':=by
 have hk:k=0\/k=1\/k=2\/k=3\/k=4\/k=5\/k=6\/k=7:=by omega
 rcases hk with rfl|rfl|rfl|rfl|rfl|rfl|rfl|rfl
 ·exact UO s v x f W t w h hW
 ·obtain rfl:t=false:=ht.resolve_left (by decide);exact UN s v x f W w h hW
 ·obtain rfl:t=false:=ht.resolve_left (by decide);exact UM s v x f W w h hW
 ·obtain rfl:t=false:=ht.resolve_left (by decide);exact UL s v x f W w h hW
 ·obtain rfl:t=false:=ht.resolve_left (by decide);exact UK s v x f W w h hW
 ·obtain rfl:t=false:=ht.resolve_left (by decide);exact UJ s v x f W w h hW
 ·obtain rfl:t=false:=ht.resolve_left (by decide);exact UI s v x f W w h hW
 ·obtain rfl:t=false:=ht.resolve_left (by decide);exact UH s v x f W w h hW
end Go.Proofs.YtgikibaajanjiaaGreatDoor
namespace Go.Proofs.YtgikibaajanjiaaGreatDoor.Pl
set_option linter.unusedVariables false
def pop:Nat->Int->Int
 | 0,_=>0
 | n+1,v=>v%2+pop n (v/2)
end Go.Proofs.YtgikibaajanjiaaGreatDoor.Pl
namespace Go.Proofs.YtgikibaajanjiaaGreatDoor
open Pl
open Go.RowKit Go.Proofs.Tryz
set_option linter.unusedVariables false
def Pl.Hf (k s f v:Int):Nat->Int
 | 0=>AO k f
 | m+1=>fell k s (Pl.st k s (v,f/16) m).1
def Pl.Ky (k s f v:Int):Nat->Bool
 | 0=>false
 | m+1=>vfl k s (Pl.st k s (v,f/16) m).2 (Pl.st k s (v,f/16) m).1
theorem Pl.GL (k s f v:Int) (m:Nat):k=0\/Ky k s f v m=false:=by
 cases m with
 | zero=>exact .inr rfl
 | succ m=>
  by_cases h:k=0
  ·exact .inl h
  ·exact .inr (by simp[Ky,vfl,h])
theorem Pl.QL {k s f v:Int} (h:Pl.Fit s (v,f/16)) (m:Nat):0<=Hf k s f v m/\Hf k s f v m<=1:=by
 cases m with
 | zero=>
  obtain⟨_,_,_,x0,x1⟩:=h;simp only at x0 x1;unfold Hf AO;split<;>omega
 | succ m=>exact nO _ _ _
theorem Pl.RV {k s f v:Int} (h:Pl.Fit s (v,f/16)) (m:Nat):Hf k s f v m+Pl.fl (Pl.ov k s (v,f/16) m) 2+zn s (Pl.st k s (v,f/16) m).1+16*(Pl.st k s (v,f/16) m).2=byF k s (v,f/16) m:=by
 cases m with
 | zero=>
  obtain⟨_,_,_,x0,x1⟩:=h;simp only at x0 x1;have hx:f/16=0\/f/16=1:=by omega
  unfold Hf AO byF Pl.ov Pl.st;simp only;by_cases h6:6<=k
  ·rcases hx with hx|hx<;>simp[hx,h6,Pl.fl]
  ·simp[h6,Pl.fl]
 | succ m=>rfl
theorem yh (k s f v n:Int) (w:World) (h:pV k s f v=true) (n0:0<=n) (n1:n<=63) :
  Calls prog 258 #[iv k,iv s,iv f,iv v,iv n] w fun e w'=>e=.returned (.tuple #[iv (Pl.st k s (v,f/16) n.toNat).1,iv (byF k s (v,f/16) n.toNat),.bool true])/\Below w.heap.size w w':=by
 have HG:=aba h;obtain⟨k0,k1,_,f0,f1,hf⟩:=pU h;have HF:=aba hf;have d0:decide (n<0)=false:=by simp;omega
 have d1:decide (63<n)=false:=by simp;omega
 clear h hf;go_enter func258,ntmps258;go_wp2_with fail;refine(rowOf k s f v _ HG.o).mono ?_;rintro e w1⟨rfl,hb⟩;have HB:=aba hb;clear hb;go_wp2_with fail;go_loopw [15,35] (fun T I wr=>∃m:Nat,(m:Int)<=n/\T=.bool (Pl.ov k s (v,f/16) m)/\I=iv m/\Box wr w1.heap.size (Pl.st k s (v,f/16) m).1 (8*s) (Pl.st k s (v,f/16) m).2 (Hf k s f v m) (Ky k s f v m)/\Below w.heap.size w wr) (fun _ I _=>n.toNat-(intOf I).toNat)
 case atStart=>exact⟨0,n0,rfl,rfl,Box.ZR _ _ _ _ _ _,HB.o.alloc HB.o.size _⟩
 case round=>
  obtain⟨m,hm,rfl,rfl,hB,hW⟩:=hrel;have HBm:=aba hB;have HW:=aba hW;have hst:=aba (oO (k:=k) HF.o m);obtain⟨c0,c1,c2,c3,c4,g0,g1,g2,g3,g4⟩:=hB.cells;clear hB hW;by_cases hlt:(m:Int)<n
  ·clear g0 g1 g2 g3 g4;cases ho:Pl.ov k s (v,f/16) m
   all_goals
    go_wp2_with fail;refine(moved k s _ _ _ _ _ _ k0 k1 hst.o rfl (GL k s f v m)).mono ?_;rintro e wt⟨rfl,hb2⟩;have Bt:=aba (HBm.o.later hb2);have HX:Hid (Below w.heap.size w wt):=aba (HW.o.trans (hb2.mono HW.o.size));clear hb2 c0 c1 c2 c3 c4;obtain⟨c0,c1,c2,c3,c4,g0,g1,g2,g3,g4⟩:=Bt.o.cells;go_wp2_with fail;go_roundw
    case rel=>exact⟨m+1,by omega,by simp[Pl.ov,ho],by go_num,Bt.o.set,Below.ou HX.o HB.o.size _ _ _ _ _⟩
    case measure=>simp[intOf];omega
  ·obtain rfl:n=(m:Int):=by omega
   have hfa:=QL (k:=k) HF.o m;have HE:=aba (RV (k:=k) HF.o m);have d2:decide ((m:Int)<(m:Int))=false:=by simp
   go_wp2_with fail;obtain⟨X,hX⟩:∃X:World,X=wr.setCell (abb w1.heap.size 4) (.bool (Pl.ov k s (v,f/16) m)):=⟨_,rfl⟩
   rw[<-hX];have B2:=aba (HBm.o.ZJ (t':=Pl.ov k s (v,f/16) m));rw[<-hX]at B2;have HY:Hid (Below w.heap.size w X):=aba (by rw[hX];exact HW.o.setCell HB.o.size _);clear hX c0 c1 c2 c3 c4 g0 g1 g2 g3 g4;obtain⟨c0,c1,c2,c3,c4,_,_,_,_,_⟩:=B2.o.cells;go_region_with (go_at_call 282;refine(Vf s _ _ _ _ _ _ hst.o rfl hfa.1 hfa.2).mono ?_;rintro e wx⟨rfl,o1,o2,rfl⟩;obtain⟨z0,z1,z2,z3,z4,_,_,_,_,_⟩:=(B2.o.two o1 o2).cells)
   all_goals
    go_wp2_with fail;go_ret3;exact⟨lZ rfl HE.o rfl,((HY.o.alloc HY.o.size _).alloc (by simpa using Nat.le_succ_of_le HY.o.size) _).drew⟩
theorem O9 (k s f v n:Int) (w:World) (hv:W64 v) :
  Calls prog 258 #[iv k,iv s,iv f,iv v,iv n] w fun e w'=>e=.returned (.tuple #[iv (iW k s f v n),iv (oD k s f v n),.bool (qH k s f v n)])/\Below w.heap.size w w':=by
 cases h:pV k s f v
 ·have K:Hid (qH k s f v n=false/\iW k s f v n=0/\oD k s f v n=0):=aba (by simp[iW,oD,qH,h]);go_enter func258,ntmps258;go_wp2_with fail;refine(Gh k s f v _ hv.1 hv.2 h).mono ?_;rintro e w1⟨rfl,hb⟩;go_wp2_with fail;go_ret3;exact⟨lZ K.o.2.1.symm K.o.2.2.symm K.o.1.symm,hb.alloc hb.size _⟩
 ·by_cases hn:0<=n/\n<=63
  ·have hk:qH k s f v n=true:=RU h hn.1 hn.2;refine(yh k s f v n w h hn.1 hn.2).mono ?_;rintro e w'⟨rfl,hb⟩;exact⟨lZ (by simp[iW,hk]) (by simp[oD,hk]) hk.symm,hb⟩
  ·have K:Hid (qH k s f v n=false/\iW k s f v n=0/\oD k s f v n=0):=by
    have:Pl.cnt n=false:=by simp[Pl.cnt];omega
    exact aba (by simp[iW,oD,qH,this])
   obtain d0|⟨d0,d1⟩:decide (n<0)=true\/(decide (n<0)=false/\decide (63<n)=true):=by simp;omega
   all_goals
    clear hn;go_enter func258,ntmps258;go_wp2_with fail;refine(rowOf k s f v _ h).mono ?_;rintro e w1⟨rfl,hb⟩;go_wp2_with fail;go_ret3;exact⟨lZ K.o.2.1.symm K.o.2.2.symm K.o.1.symm,hb.alloc hb.size _⟩
end Go.Proofs.YtgikibaajanjiaaGreatDoor
