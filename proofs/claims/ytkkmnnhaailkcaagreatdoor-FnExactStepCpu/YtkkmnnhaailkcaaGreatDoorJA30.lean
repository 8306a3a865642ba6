/- Part 30 of what the last text leans on. -/
import Derived.Test.YtkkmnnhaailkcaaGreatDoorJA28
import Derived.Test.YtkkmnnhaailkcaaGreatDoorJA29
set_option maxRecDepth 100000
set_option maxHeartbeats 16000000
namespace Go.Proofs.YtkkmnnhaailkcaaGreatDoor
open Go.RowKit Go.Proofs.Tryz
set_option linter.unusedVariables false
set_option linter.unusedSimpArgs false
theorem yL (s v x f W:Int) (t:Bool) (w:World) (h:Pl.Fit s (v,x)) (hW:W=8*s) :
  Calls prog 247 #[.agg #[iv v,iv W,iv x,iv f,.bool t]] w fun e w'=>e=.returned (.agg #[iv (Pl.nv 0 s x v),iv W,iv (Pl.nx 0 s x v),iv (Pl.fell 0 s v),.bool (Pl.vfl 0 s x v)])∧Below w.heap.size w w':=by
 obtain ⟨hs,v0,v1,x0,x1⟩:=h
 simp only at v0 v1 x0 x1
 subst hW
 rcases Pl.nV hs with ⟨rfl,e⟩|⟨rfl,e⟩<;>rw [e] at v1
 ·exact wM v x f t w v0 v1 x0 x1
 ·exact wL v x f t w v0 v1 x0 x1
theorem ww (s v x f W:Int) (t:Bool) (w:World) (h:Pl.Fit s (v,x)) (hW:W=8*s) :
  Calls prog 248 #[.agg #[iv v,iv W,iv x,iv f,.bool t]] w fun e w'=>e=.returned (.agg #[iv (Pl.nv 1 s x v),iv W,iv (Pl.nx 1 s x v),iv (Pl.fell 1 s v),.bool t])∧Below w.heap.size w w':=by
 obtain ⟨hs,v0,v1,x0,x1⟩:=h
 simp only at v0 v1 x0 x1
 subst hW
 rcases Pl.nV hs with ⟨rfl,e⟩|⟨rfl,e⟩<;>rw [e] at v1
 ·exact um v x f t w v0 v1 x0 x1
 ·exact ul v x f t w v0 v1 x0 x1
theorem NP (s v x f W:Int) (t:Bool) (w:World) (h:Pl.Fit s (v,x)) (hW:W=8*s) :
  Calls prog 249 #[.agg #[iv v,iv W,iv x,iv f,.bool t]] w fun e w'=>e=.returned (.agg #[iv (Pl.nv 2 s x v),iv W,iv (Pl.nx 2 s x v),iv (Pl.fell 2 s v),.bool t])∧Below w.heap.size w w':=by
 obtain ⟨hs,v0,v1,x0,x1⟩:=h
 simp only at v0 v1 x0 x1
 subst hW
 rcases Pl.nV hs with ⟨rfl,e⟩|⟨rfl,e⟩<;>rw [e] at v1
 ·exact Ie v x f t w v0 v1 x0 x1
 ·exact Ic v x f t w v0 v1 x0 x1
theorem ED (s v x f W:Int) (t:Bool) (w:World) (h:Pl.Fit s (v,x)) (hW:W=8*s) :
  Calls prog 250 #[.agg #[iv v,iv W,iv x,iv f,.bool t]] w fun e w'=>e=.returned (.agg #[iv (Pl.nv 3 s x v),iv W,iv (Pl.nx 3 s x v),iv (Pl.fell 3 s v),.bool t])∧Below w.heap.size w w':=by
 obtain ⟨hs,v0,v1,x0,x1⟩:=h
 simp only at v0 v1 x0 x1
 subst hW
 rcases Pl.nV hs with ⟨rfl,e⟩|⟨rfl,e⟩<;>rw [e] at v1
 ·exact AX v x f t w v0 v1 x0 x1
 ·exact AV v x f t w v0 v1 x0 x1
theorem Q7 (s v x f W:Int) (t:Bool) (w:World) (h:Pl.Fit s (v,x)) (hW:W=8*s) :
  Calls prog 251 #[.agg #[iv v,iv W,iv x,iv f,.bool t]] w fun e w'=>e=.returned (.agg #[iv (Pl.nv 4 s x v),iv W,iv (Pl.nx 4 s x v),iv (Pl.fell 4 s v),.bool t])∧Below w.heap.size w w':=by
 obtain ⟨hs,v0,v1,x0,x1⟩:=h
 simp only at v0 v1 x0 x1
 subst hW
 rcases Pl.nV hs with ⟨rfl,e⟩|⟨rfl,e⟩<;>rw [e] at v1
 ·exact MZ v x f t w v0 v1 x0 x1
 ·exact MX v x f t w v0 v1 x0 x1
theorem GV (s v x f W:Int) (t:Bool) (w:World) (h:Pl.Fit s (v,x)) (hW:W=8*s) :
  Calls prog 252 #[.agg #[iv v,iv W,iv x,iv f,.bool t]] w fun e w'=>e=.returned (.agg #[iv (Pl.nv 5 s x v),iv W,iv (Pl.nx 5 s x v),iv (Pl.fell 5 s v),.bool t])∧Below w.heap.size w w':=by
 obtain ⟨hs,v0,v1,x0,x1⟩:=h
 simp only at v0 v1 x0 x1
 subst hW
 rcases Pl.nV hs with ⟨rfl,e⟩|⟨rfl,e⟩<;>rw [e] at v1
 ·exact En v x f t w v0 v1 x0 x1
 ·exact Em v x f t w v0 v1 x0 x1
theorem qF (s v x f W:Int) (t:Bool) (w:World) (h:Pl.Fit s (v,x)) (hW:W=8*s) :
  Calls prog 253 #[.agg #[iv v,iv W,iv x,iv f,.bool t]] w fun e w'=>e=.returned (.agg #[iv (Pl.nv 6 s x v),iv W,iv (Pl.nx 6 s x v),iv (Pl.fell 6 s v),.bool t])∧Below w.heap.size w w':=by
 obtain ⟨hs,v0,v1,x0,x1⟩:=h
 simp only at v0 v1 x0 x1
 subst hW
 rcases Pl.nV hs with ⟨rfl,e⟩|⟨rfl,e⟩<;>rw [e] at v1
 ·exact oO v x f t w v0 v1 x0 x1
 ·exact oN v x f t w v0 v1 x0 x1
theorem nZ (s v x f W:Int) (t:Bool) (w:World) (h:Pl.Fit s (v,x)) (hW:W=8*s) :
  Calls prog 254 #[.agg #[iv v,iv W,iv x,iv f,.bool t]] w fun e w'=>e=.returned (.agg #[iv (Pl.nv 7 s x v),iv W,iv (Pl.nx 7 s x v),iv (Pl.fell 7 s v),.bool t])∧Below w.heap.size w w':=by
 obtain ⟨hs,v0,v1,x0,x1⟩:=h
 simp only at v0 v1 x0 x1
 subst hW
 rcases Pl.nV hs with ⟨rfl,e⟩|⟨rfl,e⟩<;>rw [e] at v1
 ·exact nI v x f t w v0 v1 x0 x1
 ·exact nH v x f t w v0 v1 x0 x1
theorem RZ (s v x f W:Int) (t:Bool) (w:World) (h:Pl.Fit s (v,x)) (hW:W=8*s) :
  Calls prog 229 #[.agg #[iv v,iv W,iv x,iv f,.bool t],iv 0] w fun e w'=>e=.returned (.agg #[iv (Pl.nv 0 s x v),iv W,iv (Pl.nx 0 s x v),iv (Pl.fell 0 s v),.bool (Pl.vfl 0 s x v)])∧Below w.heap.size w w':=by
 have hst:=iF
 have E4:Hid (Pl.vfl 0 s x v=Pl.vfl 0 s x v):=hide (by rfl)
 have HF:=hide h
 have HWW:=hide hW
 clear h hW
 go_enter func229,ntmps229
 go_wp2_with fail
 clear hst
 obtain ⟨X,hX⟩:∃X:World,X=(((w.alloc (.cells #[iv v,iv W,iv x,iv f,.bool t] 219)).alloc (.cells ftZ 219)).alloc (.cells #[.func (.func 247) #[] #[],.func (.func 248) #[] #[],.func (.func 249) #[] #[],.func (.func 250) #[] #[],.func (.func 251) #[] #[],.func (.func 252) #[] #[],.func (.func 253) #[] #[],.func (.func 254) #[] #[]] 238)):=⟨_,rfl⟩
 rw [←hX]
 have B1:Box X w.heap.size v W x f t:=by rw [hX];exact Box.zo _ _ _ _ _ _ _ _
 have B2:Box X (w.heap.size+1) 0 0 0 0 false:=by rw [hX];exact Box.zl _ _ _ _ _ _ _ _
 have hF:X.cell? ⟨w.heap.size+1+1,0,none⟩=some (.func (.func 247) #[] #[]):=by rw [hX];go_simp
 have HX:Hid (Below w.heap.size w X):=hide (by rw [hX];exact (((Below.refl _ _).alloc (by simp) _).alloc (by simp) _).alloc (by simp<;>omega) _)
 clear hX
 obtain ⟨a0,a1,a2,a3,a4,_,_,_,_,_⟩:=B1.cells
 have HB2:=hide B2
 clear B1 B2
 go_region_with (go_at_call 247;refine (yL s v x f W t _ HF.o HWW.o).mono ?_;rintro e wt ⟨rfl,hb0⟩;have hb:=oM hb0;clear hb0;have HBt:=hide (HB2.o.later hb);obtain ⟨c0,c1,c2,c3,c4,g0,g1,g2,g3,g4⟩:=HBt.o.cells;have HB:=hide hb;clear hb a0 a1 a2 a3 a4 hF)
 all_goals
  go_wp2_with fail
  refine bodyPost_ret (v:=.agg #[iv (Pl.nv 0 s x v),iv W,iv (Pl.nx 0 s x v),iv (Pl.fell 0 s v),.bool (Pl.vfl 0 s x v)]) ?_ rfl ⟨?_,?_⟩
  ·exact gK rfl _ rfl (HBt.o.set)
  ·exact rA rfl rfl rfl rfl rfl
  ·exact (((((HX.o.trans (HB.o.mono HX.o.size)).setCell (by simp) _).setCell (by simp) _).setCell (by simp) _).setCell (by simp) _).setCell (by simp) _
theorem RY (s v x f W:Int) (w:World) (h:Pl.Fit s (v,x)) (hW:W=8*s) :
  Calls prog 229 #[.agg #[iv v,iv W,iv x,iv f,.bool false],iv 1] w fun e w'=>e=.returned (.agg #[iv (Pl.nv 1 s x v),iv W,iv (Pl.nx 1 s x v),iv (Pl.fell 1 s v),.bool (Pl.vfl 1 s x v)])∧Below w.heap.size w w':=by
 have hst:=iF
 have E4:Hid (false=Pl.vfl 1 s x v):=hide (by simp [Pl.vfl])
 have HF:=hide h
 have HWW:=hide hW
 clear h hW
 go_enter func229,ntmps229
 go_wp2_with fail
 clear hst
 obtain ⟨X,hX⟩:∃X:World,X=(((w.alloc (.cells #[iv v,iv W,iv x,iv f,.bool false] 219)).alloc (.cells ftZ 219)).alloc (.cells #[.func (.func 247) #[] #[],.func (.func 248) #[] #[],.func (.func 249) #[] #[],.func (.func 250) #[] #[],.func (.func 251) #[] #[],.func (.func 252) #[] #[],.func (.func 253) #[] #[],.func (.func 254) #[] #[]] 238)):=⟨_,rfl⟩
 rw [←hX]
 have B1:Box X w.heap.size v W x f false:=by rw [hX];exact Box.zo _ _ _ _ _ _ _ _
 have B2:Box X (w.heap.size+1) 0 0 0 0 false:=by rw [hX];exact Box.zl _ _ _ _ _ _ _ _
 have hF:X.cell? ⟨w.heap.size+1+1,1,none⟩=some (.func (.func 248) #[] #[]):=by rw [hX];go_simp
 have HX:Hid (Below w.heap.size w X):=hide (by rw [hX];exact (((Below.refl _ _).alloc (by simp) _).alloc (by simp) _).alloc (by simp<;>omega) _)
 clear hX
 obtain ⟨a0,a1,a2,a3,a4,_,_,_,_,_⟩:=B1.cells
 have HB2:=hide B2
 clear B1 B2
 go_region_with (go_at_call 248;refine (ww s v x f W false _ HF.o HWW.o).mono ?_;rintro e wt ⟨rfl,hb0⟩;have hb:=oM hb0;clear hb0;have HBt:=hide (HB2.o.later hb);obtain ⟨c0,c1,c2,c3,c4,g0,g1,g2,g3,g4⟩:=HBt.o.cells;have HB:=hide hb;clear hb a0 a1 a2 a3 a4 hF)
 all_goals
  go_wp2_with fail
  refine bodyPost_ret (v:=.agg #[iv (Pl.nv 1 s x v),iv W,iv (Pl.nx 1 s x v),iv (Pl.fell 1 s v),.bool false]) ?_ rfl ⟨?_,?_⟩
  ·exact gK rfl _ rfl (HBt.o.set)
  ·exact rA rfl rfl rfl rfl E4.o
  ·exact (((((HX.o.trans (HB.o.mono HX.o.size)).setCell (by simp) _).setCell (by simp) _).setCell (by simp) _).setCell (by simp) _).setCell (by simp) _
theorem RX (s v x f W:Int) (w:World) (h:Pl.Fit s (v,x)) (hW:W=8*s) :
  Calls prog 229 #[.agg #[iv v,iv W,iv x,iv f,.bool false],iv 2] w fun e w'=>e=.returned (.agg #[iv (Pl.nv 2 s x v),iv W,iv (Pl.nx 2 s x v),iv (Pl.fell 2 s v),.bool (Pl.vfl 2 s x v)])∧Below w.heap.size w w':=by
 have hst:=iF
 have E4:Hid (false=Pl.vfl 2 s x v):=hide (by simp [Pl.vfl])
 have HF:=hide h
 have HWW:=hide hW
 clear h hW
 go_enter func229,ntmps229
 go_wp2_with fail
 clear hst
 obtain ⟨X,hX⟩:∃X:World,X=(((w.alloc (.cells #[iv v,iv W,iv x,iv f,.bool false] 219)).alloc (.cells ftZ 219)).alloc (.cells #[.func (.func 247) #[] #[],.func (.func 248) #[] #[],.func (.func 249) #[] #[],.func (.func 250) #[] #[],.func (.func 251) #[] #[],.func (.func 252) #[] #[],.func (.func 253) #[] #[],.func (.func 254) #[] #[]] 238)):=⟨_,rfl⟩
 rw [←hX]
 have B1:Box X w.heap.size v W x f false:=by rw [hX];exact Box.zo _ _ _ _ _ _ _ _
 have B2:Box X (w.heap.size+1) 0 0 0 0 false:=by rw [hX];exact Box.zl _ _ _ _ _ _ _ _
 have hF:X.cell? ⟨w.heap.size+1+1,2,none⟩=some (.func (.func 249) #[] #[]):=by rw [hX];go_simp
 have HX:Hid (Below w.heap.size w X):=hide (by rw [hX];exact (((Below.refl _ _).alloc (by simp) _).alloc (by simp) _).alloc (by simp<;>omega) _)
 clear hX
 obtain ⟨a0,a1,a2,a3,a4,_,_,_,_,_⟩:=B1.cells
 have HB2:=hide B2
 clear B1 B2
 go_region_with (go_at_call 249;refine (NP s v x f W false _ HF.o HWW.o).mono ?_;rintro e wt ⟨rfl,hb0⟩;have hb:=oM hb0;clear hb0;have HBt:=hide (HB2.o.later hb);obtain ⟨c0,c1,c2,c3,c4,g0,g1,g2,g3,g4⟩:=HBt.o.cells;have HB:=hide hb;clear hb a0 a1 a2 a3 a4 hF)
 all_goals
  go_wp2_with fail
  refine bodyPost_ret (v:=.agg #[iv (Pl.nv 2 s x v),iv W,iv (Pl.nx 2 s x v),iv (Pl.fell 2 s v),.bool false]) ?_ rfl ⟨?_,?_⟩
  ·exact gK rfl _ rfl (HBt.o.set)
  ·exact rA rfl rfl rfl rfl E4.o
  ·exact (((((HX.o.trans (HB.o.mono HX.o.size)).setCell (by simp) _).setCell (by simp) _).setCell (by simp) _).setCell (by simp) _).setCell (by simp) _
theorem RV (s v x f W:Int) (w:World) (h:Pl.Fit s (v,x)) (hW:W=8*s) :
  Calls prog 229 #[.agg #[iv v,iv W,iv x,iv f,.bool false],iv 3] w fun e w'=>e=.returned (.agg #[iv (Pl.nv 3 s x v),iv W,iv (Pl.nx 3 s x v),iv (Pl.fell 3 s v),.bool (Pl.vfl 3 s x v)])∧Below w.heap.size w w':=by
 have hst:=iF
 have E4:Hid (false=Pl.vfl 3 s x v):=hide (by simp [Pl.vfl])
 have HF:=hide h
 have HWW:=hide hW
 clear h hW
 go_enter func229,ntmps229
 go_wp2_with fail
 clear hst
 obtain ⟨X,hX⟩:∃X:World,X=(((w.alloc (.cells #[iv v,iv W,iv x,iv f,.bool false] 219)).alloc (.cells ftZ 219)).alloc (.cells #[.func (.func 247) #[] #[],.func (.func 248) #[] #[],.func (.func 249) #[] #[],.func (.func 250) #[] #[],.func (.func 251) #[] #[],.func (.func 252) #[] #[],.func (.func 253) #[] #[],.func (.func 254) #[] #[]] 238)):=⟨_,rfl⟩
 rw [←hX]
 have B1:Box X w.heap.size v W x f false:=by rw [hX];exact Box.zo _ _ _ _ _ _ _ _
 have B2:Box X (w.heap.size+1) 0 0 0 0 false:=by rw [hX];exact Box.zl _ _ _ _ _ _ _ _
 have hF:X.cell? ⟨w.heap.size+1+1,3,none⟩=some (.func (.func 250) #[] #[]):=by rw [hX];go_simp
 have HX:Hid (Below w.heap.size w X):=hide (by rw [hX];exact (((Below.refl _ _).alloc (by simp) _).alloc (by simp) _).alloc (by simp<;>omega) _)
 clear hX
 obtain ⟨a0,a1,a2,a3,a4,_,_,_,_,_⟩:=B1.cells
 have HB2:=hide B2
 clear B1 B2
 go_region_with (go_at_call 250;refine (ED s v x f W false _ HF.o HWW.o).mono ?_;rintro e wt ⟨rfl,hb0⟩;have hb:=oM hb0;clear hb0;have HBt:=hide (HB2.o.later hb);obtain ⟨c0,c1,c2,c3,c4,g0,g1,g2,g3,g4⟩:=HBt.o.cells;have HB:=hide hb;clear hb a0 a1 a2 a3 a4 hF)
 all_goals
  go_wp2_with fail
  refine bodyPost_ret (v:=.agg #[iv (Pl.nv 3 s x v),iv W,iv (Pl.nx 3 s x v),iv (Pl.fell 3 s v),.bool false]) ?_ rfl ⟨?_,?_⟩
  ·exact gK rfl _ rfl (HBt.o.set)
  ·exact rA rfl rfl rfl rfl E4.o
  ·exact (((((HX.o.trans (HB.o.mono HX.o.size)).setCell (by simp) _).setCell (by simp) _).setCell (by simp) _).setCell (by simp) _).setCell (by simp) _
theorem RU (s v x f W:Int) (w:World) (h:Pl.Fit s (v,x)) (hW:W=8*s) :
  Calls prog 229 #[.agg #[iv v,iv W,iv x,iv f,.bool false],iv 4] w fun e w'=>e=.returned (.agg #[iv (Pl.nv 4 s x v),iv W,iv (Pl.nx 4 s x v),iv (Pl.fell 4 s v),.bool (Pl.vfl 4 s x v)])∧Below w.heap.size w w':=by
 have hst:=iF
 have E4:Hid (false=Pl.vfl 4 s x v):=hide (by simp [Pl.vfl])
 have HF:=hide h
 have HWW:=hide hW
 clear h hW
 go_enter func229,ntmps229
 go_wp2_with fail
 clear hst
 obtain ⟨X,hX⟩:∃X:World,X=(((w.alloc (.cells #[iv v,iv W,iv x,iv f,.bool false] 219)).alloc (.cells ftZ 219)).alloc (.cells #[.func (.func 247) #[] #[],.func (.func 248) #[] #[],.func (.func 249) #[] #[],.func (.func 250) #[] #[],.func (.func 251) #[] #[],.func (.func 252) #[] #[],.func (.func 253) #[] #[],.func (.func 254) #[] #[]] 238)):=⟨_,rfl⟩
 rw [←hX]
 have B1:Box X w.heap.size v W x f false:=by rw [hX];exact Box.zo _ _ _ _ _ _ _ _
 have B2:Box X (w.heap.size+1) 0 0 0 0 false:=by rw [hX];exact Box.zl _ _ _ _ _ _ _ _
 have hF:X.cell? ⟨w.heap.size+1+1,4,none⟩=some (.func (.func 251) #[] #[]):=by rw [hX];go_simp
 have HX:Hid (Below w.heap.size w X):=hide (by rw [hX];exact (((Below.refl _ _).alloc (by simp) _).alloc (by simp) _).alloc (by simp<;>omega) _)
 clear hX
 obtain ⟨a0,a1,a2,a3,a4,_,_,_,_,_⟩:=B1.cells
 have HB2:=hide B2
 clear B1 B2
 go_region_with (go_at_call 251;refine (Q7 s v x f W false _ HF.o HWW.o).mono ?_;rintro e wt ⟨rfl,hb0⟩;have hb:=oM hb0;clear hb0;have HBt:=hide (HB2.o.later hb);obtain ⟨c0,c1,c2,c3,c4,g0,g1,g2,g3,g4⟩:=HBt.o.cells;have HB:=hide hb;clear hb a0 a1 a2 a3 a4 hF)
 all_goals
  go_wp2_with fail
  refine bodyPost_ret (v:=.agg #[iv (Pl.nv 4 s x v),iv W,iv (Pl.nx 4 s x v),iv (Pl.fell 4 s v),.bool false]) ?_ rfl ⟨?_,?_⟩
  ·exact gK rfl _ rfl (HBt.o.set)
  ·exact rA rfl rfl rfl rfl E4.o
  ·exact (((((HX.o.trans (HB.o.mono HX.o.size)).setCell (by simp) _).setCell (by simp) _).setCell (by simp) _).setCell (by simp) _).setCell (by simp) _
theorem RS (s v x f W:Int) (w:World) (h:Pl.Fit s (v,x)) (hW:W=8*s) :
  Calls prog 229 #[.agg #[iv v,iv W,iv x,iv f,.bool false],iv 5] w fun e w'=>e=.returned (.agg #[iv (Pl.nv 5 s x v),iv W,iv (Pl.nx 5 s x v),iv (Pl.fell 5 s v),.bool (Pl.vfl 5 s x v)])∧Below w.heap.size w w':=by
 have hst:=iF
 have E4:Hid (false=Pl.vfl 5 s x v):=hide (by simp [Pl.vfl])
 have HF:=hide h
 have HWW:=hide hW
 clear h hW
 go_enter func229,ntmps229
 go_wp2_with fail
 clear hst
 obtain ⟨X,hX⟩:∃X:World,X=(((w.alloc (.cells #[iv v,iv W,iv x,iv f,.bool false] 219)).alloc (.cells ftZ 219)).alloc (.cells #[.func (.func 247) #[] #[],.func (.func 248) #[] #[],.func (.func 249) #[] #[],.func (.func 250) #[] #[],.func (.func 251) #[] #[],.func (.func 252) #[] #[],.func (.func 253) #[] #[],.func (.func 254) #[] #[]] 238)):=⟨_,rfl⟩
 rw [←hX]
 have B1:Box X w.heap.size v W x f false:=by rw [hX];exact Box.zo _ _ _ _ _ _ _ _
 have B2:Box X (w.heap.size+1) 0 0 0 0 false:=by rw [hX];exact Box.zl _ _ _ _ _ _ _ _
 have hF:X.cell? ⟨w.heap.size+1+1,5,none⟩=some (.func (.func 252) #[] #[]):=by rw [hX];go_simp
 have HX:Hid (Below w.heap.size w X):=hide (by rw [hX];exact (((Below.refl _ _).alloc (by simp) _).alloc (by simp) _).alloc (by simp<;>omega) _)
 clear hX
 obtain ⟨a0,a1,a2,a3,a4,_,_,_,_,_⟩:=B1.cells
 have HB2:=hide B2
 clear B1 B2
 go_region_with (go_at_call 252;refine (GV s v x f W false _ HF.o HWW.o).mono ?_;rintro e wt ⟨rfl,hb0⟩;have hb:=oM hb0;clear hb0;have HBt:=hide (HB2.o.later hb);obtain ⟨c0,c1,c2,c3,c4,g0,g1,g2,g3,g4⟩:=HBt.o.cells;have HB:=hide hb;clear hb a0 a1 a2 a3 a4 hF)
 all_goals
  go_wp2_with fail
  refine bodyPost_ret (v:=.agg #[iv (Pl.nv 5 s x v),iv W,iv (Pl.nx 5 s x v),iv (Pl.fell 5 s v),.bool false]) ?_ rfl ⟨?_,?_⟩
  ·exact gK rfl _ rfl (HBt.o.set)
  ·exact rA rfl rfl rfl rfl E4.o
  ·exact (((((HX.o.trans (HB.o.mono HX.o.size)).setCell (by simp) _).setCell (by simp) _).setCell (by simp) _).setCell (by simp) _).setCell (by simp) _
theorem RQ (s v x f W:Int) (w:World) (h:Pl.Fit s (v,x)) (hW:W=8*s) :
  Calls prog 229 #[.agg #[iv v,iv W,iv x,iv f,.bool false],iv 6] w fun e w'=>e=.returned (.agg #[iv (Pl.nv 6 s x v),iv W,iv (Pl.nx 6 s x v),iv (Pl.fell 6 s v),.bool (Pl.vfl 6 s x v)])∧Below w.heap.size w w':=by
 have hst:=iF
 have E4:Hid (false=Pl.vfl 6 s x v):=hide (by simp [Pl.vfl])
 have HF:=hide h
 have HWW:=hide hW
 clear h hW
 go_enter func229,ntmps229
 go_wp2_with fail
 clear hst
 obtain ⟨X,hX⟩:∃X:World,X=(((w.alloc (.cells #[iv v,iv W,iv x,iv f,.bool false] 219)).alloc (.cells ftZ 219)).alloc (.cells #[.func (.func 247) #[] #[],.func (.func 248) #[] #[],.func (.func 249) #[] #[],.func (.func 250) #[] #[],.func (.func 251) #[] #[],.func (.func 252) #[] #[],.func (.func 253) #[] #[],.func (.func 254) #[] #[]] 238)):=⟨_,rfl⟩
 rw [←hX]
 have B1:Box X w.heap.size v W x f false:=by rw [hX];exact Box.zo _ _ _ _ _ _ _ _
 have B2:Box X (w.heap.size+1) 0 0 0 0 false:=by rw [hX];exact Box.zl _ _ _ _ _ _ _ _
 have hF:X.cell? ⟨w.heap.size+1+1,6,none⟩=some (.func (.func 253) #[] #[]):=by rw [hX];go_simp
 have HX:Hid (Below w.heap.size w X):=hide (by rw [hX];exact (((Below.refl _ _).alloc (by simp) _).alloc (by simp) _).alloc (by simp<;>omega) _)
 clear hX
 obtain ⟨a0,a1,a2,a3,a4,_,_,_,_,_⟩:=B1.cells
 have HB2:=hide B2
 clear B1 B2
 go_region_with (go_at_call 253;refine (qF s v x f W false _ HF.o HWW.o).mono ?_;rintro e wt ⟨rfl,hb0⟩;have hb:=oM hb0;clear hb0;have HBt:=hide (HB2.o.later hb);obtain ⟨c0,c1,c2,c3,c4,g0,g1,g2,g3,g4⟩:=HBt.o.cells;have HB:=hide hb;clear hb a0 a1 a2 a3 a4 hF)
 all_goals
  go_wp2_with fail
  refine bodyPost_ret (v:=.agg #[iv (Pl.nv 6 s x v),iv W,iv (Pl.nx 6 s x v),iv (Pl.fell 6 s v),.bool false]) ?_ rfl ⟨?_,?_⟩
  ·exact gK rfl _ rfl (HBt.o.set)
  ·exact rA rfl rfl rfl rfl E4.o
  ·exact (((((HX.o.trans (HB.o.mono HX.o.size)).setCell (by simp) _).setCell (by simp) _).setCell (by simp) _).setCell (by simp) _).setCell (by simp) _
theorem RP (s v x f W:Int) (w:World) (h:Pl.Fit s (v,x)) (hW:W=8*s) :
  Calls prog 229 #[.agg #[iv v,iv W,iv x,iv f,.bool false],iv 7] w fun e w'=>e=.returned (.agg #[iv (Pl.nv 7 s x v),iv W,iv (Pl.nx 7 s x v),iv (Pl.fell 7 s v),.bool (Pl.vfl 7 s x v)])∧Below w.heap.size w w':=by
 have hst:=iF
 have E4:Hid (false=Pl.vfl 7 s x v):=hide (by simp [Pl.vfl])
 have HF:=hide h
 have HWW:=hide hW
 clear h hW
 go_enter func229,ntmps229
 go_wp2_with fail
 clear hst
 obtain ⟨X,hX⟩:∃X:World,X=(((w.alloc (.cells #[iv v,iv W,iv x,iv f,.bool false] 219)).alloc (.cells ftZ 219)).alloc (.cells #[.func (.func 247) #[] #[],.func (.func 248) #[] #[],.func (.func 249) #[] #[],.func (.func 250) #[] #[],.func (.func 251) #[] #[],.func (.func 252) #[] #[],.func (.func 253) #[] #[],.func (.func 254) #[] #[]] 238)):=⟨_,rfl⟩
 rw [←hX]
 have B1:Box X w.heap.size v W x f false:=by rw [hX];exact Box.zo _ _ _ _ _ _ _ _
 have B2:Box X (w.heap.size+1) 0 0 0 0 false:=by rw [hX];exact Box.zl _ _ _ _ _ _ _ _
 have hF:X.cell? ⟨w.heap.size+1+1,7,none⟩=some (.func (.func 254) #[] #[]):=by rw [hX];go_simp
 have HX:Hid (Below w.heap.size w X):=hide (by rw [hX];exact (((Below.refl _ _).alloc (by simp) _).alloc (by simp) _).alloc (by simp<;>omega) _)
 clear hX
 obtain ⟨a0,a1,a2,a3,a4,_,_,_,_,_⟩:=B1.cells
 have HB2:=hide B2
 clear B1 B2
 go_region_with (go_at_call 254;refine (nZ s v x f W false _ HF.o HWW.o).mono ?_;rintro e wt ⟨rfl,hb0⟩;have hb:=oM hb0;clear hb0;have HBt:=hide (HB2.o.later hb);obtain ⟨c0,c1,c2,c3,c4,g0,g1,g2,g3,g4⟩:=HBt.o.cells;have HB:=hide hb;clear hb a0 a1 a2 a3 a4 hF)
 all_goals
  go_wp2_with fail
  refine bodyPost_ret (v:=.agg #[iv (Pl.nv 7 s x v),iv W,iv (Pl.nx 7 s x v),iv (Pl.fell 7 s v),.bool false]) ?_ rfl ⟨?_,?_⟩
  ·exact gK rfl _ rfl (HBt.o.set)
  ·exact rA rfl rfl rfl rfl E4.o
  ·exact (((((HX.o.trans (HB.o.mono HX.o.size)).setCell (by simp) _).setCell (by simp) _).setCell (by simp) _).setCell (by simp) _).setCell (by simp) _
theorem moved (k s v x f W:Int) (t:Bool) (w:World) (k0:0≤k) (k1:k≤7) (h:Pl.Fit s (v,x)) (hW:W=8*s) (ht:k=0∨t=false) :
  Calls prog 229 #[.agg #[iv v,iv W,iv x,iv f,.bool t],iv k] w fun e w'=>e=.returned (.agg #[iv (Pl.nv k s x v),iv W,iv (Pl.nx k s x v),iv (Pl.fell k s v),.bool (Pl.vfl k s x v)])∧Below w.heap.size w w':=by
 have hk:k=0∨k=1∨k=2∨k=3∨k=4∨k=5∨k=6∨k=7:=by omega
 rcases hk with rfl|rfl|rfl|rfl|rfl|rfl|rfl|rfl
 ·exact RZ s v x f W t w h hW
 ·obtain rfl:t=false:=ht.resolve_left (by decide)
  exact RY s v x f W w h hW
 ·obtain rfl:t=false:=ht.resolve_left (by decide)
  exact RX s v x f W w h hW
 ·obtain rfl:t=false:=ht.resolve_left (by decide)
  exact RV s v x f W w h hW
 ·obtain rfl:t=false:=ht.resolve_left (by decide)
  exact RU s v x f W w h hW
 ·obtain rfl:t=false:=ht.resolve_left (by decide)
  exact RS s v x f W w h hW
 ·obtain rfl:t=false:=ht.resolve_left (by decide)
  exact RQ s v x f W w h hW
 ·obtain rfl:t=false:=ht.resolve_left (by decide)
  exact RP s v x f W w h hW
end Go.Proofs.YtkkmnnhaailkcaaGreatDoor
