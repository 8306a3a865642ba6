/- Part 14 of what the last text leans on. -/
import Derived.Test.YtkkmnnhaailkcaaGreatDoorJB13
import Derived.Test.YtkkmnnhaailkcaaGreatDoorJB9
import Derived.Laws.ResultCell
import Derived.Test.YtkkmnnhaailkcaaGreatDoorJB4
import Derived.StillTailTactics
import Derived.BigQuiet
import Derived.Deep.QuietTactic
import Derived.Test.YtkkmnnhaailkcaaGreatDoorJB6
import Derived.Test.YtkkmnnhaailkcaaGreatDoorJB3
import Derived.Test.YtkkmnnhaailkcaaGreatDoorJB1
import Derived.RegionTactic
import Derived.Test.YtkkmnnhaailkcaaGreatDoorJB12
set_option maxRecDepth 100000
set_option maxHeartbeats 16000000
namespace Go.Proofs.YtkkmnnhaailkcaaGreatDoor
open Go.RowKit Go.Proofs.Tryz
set_option linter.unusedVariables false
set_option linter.unusedSimpArgs false
theorem zX (b:Bool) (f:Int) (w:World) :
  Calls prog 133 #[.bool b,iv f] w fun e w'=>e=.returned (iv (Pl.fl b f))∧w'=w:=by
 cases b
 all_goals
  go_enter func133,ntmps133
  go_wp2
  go_ret
  exact ⟨rfl,rfl⟩
theorem uC (s:Int) (w:World) (s0:0≤s) (s1:s≤2) :
  Calls prog 226 #[iv s] w fun e w'=>e=.returned (iv (8*s))∧w'=w:=by
 go_enter func226,ntmps226
 go_wp2
 go_ret
 exact ⟨rI (by omega),rfl⟩
theorem uO (k:Int) (w:World) :
  Calls prog 246 #[iv k] w fun e w'=>e=.returned (.bool (Pl.kin k))∧w'=w:=by
 by_cases h0:0≤k
 all_goals
  by_cases h1:k≤7
  all_goals
   go_enter func246,ntmps246
   go_wp2
   go_ret
   exact ⟨rB (by simp [Pl.kin];omega),rfl⟩
theorem rO (f:Int) (w:World) :
  Calls prog 86 #[iv f] w fun e w'=>e=.returned (.bool (Pl.flags f))∧w'=w:=by
 by_cases h0:0≤f
 all_goals
  by_cases h1:f≤31
  all_goals
   go_enter func86,ntmps86
   go_wp2
   go_ret
   exact ⟨rB (by simp [Pl.flags];omega),rfl⟩
theorem Pl.five {x f h:Int} {t z:Bool} (hx:x=0∨x=1) (hf:f=0∨f=1) (hh:h=0∨h=1) :
  bits .or .i64 (bits .or .i64 (bits .or .i64 (bits .or .i64 (Pl.fl (f==1) 1) (Pl.fl t 2)) (Pl.fl z 4)) (Pl.fl (h==1) 8)) (Pl.fl (x==1) 16)=f+Pl.fl t 2+(Pl.fl z 4+Pl.fl (h==1) 8)+16*x:=by
 rcases hx with rfl|rfl<;>rcases hf with rfl|rfl<;>rcases hh with rfl|rfl<;>cases t<;>cases z<;>decide
theorem Pl.J6 (s v:Int):(Pl.hi s v==1)=decide (Pl.top s/2≤v):=by
 unfold Pl.hi;split
 ·rename_i h;simp [h]
 ·rename_i h;simp [h]
theorem TS (v x f:Int) (t:Bool) (w:World) (h0:0≤v) (h1:v<256) (x0:0≤x) (x1:x≤1) (f0:0≤f) (f1:f≤1) :
  Calls prog 230 #[.agg #[iv v,iv 8,iv x,iv f,.bool t]] w fun e w'=>e=.returned (iv (f+Pl.fl t 2+Pl.zn 1 v+16*x))∧∃o1 o2,w'=(w.alloc o1).alloc o2:=by
 go_enter func230,ntmps230
 go_wp2_with (first|(go_at_call 133;refine st (zX _ _ _) ?_)|(go_at_call 255;refine (gp _ _ _ _ _ h0 h1).mono ?_;rintro e w' ⟨rfl,o,rfl⟩))
 go_ret
 obtain ⟨b0,b1⟩:=Pl.dX 1 v
 refine ⟨rI ?_,_,_,rfl⟩
 show bits .or .i64 _ _=_
 rw [Pl.five (by omega) (by omega) (by omega),Pl.J6];rfl
theorem TR (v x f:Int) (t:Bool) (w:World) (h0:0≤v) (h1:v<65536) (x0:0≤x) (x1:x≤1) (f0:0≤f) (f1:f≤1) :
  Calls prog 230 #[.agg #[iv v,iv 16,iv x,iv f,.bool t]] w fun e w'=>e=.returned (iv (f+Pl.fl t 2+Pl.zn 2 v+16*x))∧∃o1 o2,w'=(w.alloc o1).alloc o2:=by
 go_enter func230,ntmps230
 go_wp2_with (first|(go_at_call 133;refine st (zX _ _ _) ?_)|(go_at_call 255;refine (fZ _ _ _ _ _ h0 h1).mono ?_;rintro e w' ⟨rfl,o,rfl⟩))
 go_ret
 obtain ⟨b0,b1⟩:=Pl.dX 2 v
 refine ⟨rI ?_,_,_,rfl⟩
 show bits .or .i64 _ _=_
 rw [Pl.five (by omega) (by omega) (by omega),Pl.J6];rfl
theorem TQ (s v x f W:Int) (t:Bool) (w:World) (h:Pl.Fit s (v,x)) (hW:W=8*s) (f0:0≤f) (f1:f≤1) :
  Calls prog 230 #[.agg #[iv v,iv W,iv x,iv f,.bool t]] w fun e w'=>e=.returned (iv (f+Pl.fl t 2+Pl.zn s v+16*x))∧∃o1 o2,w'=(w.alloc o1).alloc o2:=by
 obtain ⟨hs,v0,v1,x0,x1⟩:=h
 simp only at v0 v1 x0 x1
 subst hW
 rcases Pl.og hs with ⟨rfl,e⟩|⟨rfl,e⟩<;>rw [e] at v1
 ·exact TS v x f t w v0 v1 x0 x1 f0 f1
 ·exact TR v x f t w v0 v1 x0 x1 f0 f1
theorem EW (k s f v:Int) (w:World) (lo : -9223372036854775808≤v) (hi:v≤9223372036854775807) (h:Pl.qi k s f v=false) :
  Calls prog 228 #[iv k,iv s,iv f,iv v] w fun e w'=>e=.returned (.tuple #[.agg ftZ,.bool false])∧Below w.heap.size w w':=by
 have H:(Pl.okv s v=false)∨(Pl.okv s v=true∧Pl.flags f=false)∨(Pl.okv s v=true∧Pl.flags f=true∧Pl.kin k=false):=by
  unfold Pl.qi at h
  unfold Pl.kin
  revert h
  cases Pl.okv s v<;>cases Pl.flags f<;>simp
 clear h
 rcases H with h1|⟨h1,h2⟩|⟨h1,h2,h3⟩
 all_goals
  go_enter func228,ntmps228
  go_wp2_with (first|(go_at_call 128;refine st (dG _ _ _ lo hi) ?_)|(go_at_call 86;refine st (rO _ _) ?_)|(go_at_call 246;refine st (uO _ _) ?_))
  refine bodyPost_ret (v:=.tuple #[.agg ftZ,.bool false]) ?_ rfl ⟨rfl,?_⟩
  ·rw [results_cell_tmp rfl];go_simp
  ·(repeat' (first|with_reducible exact Below.refl _ _|with_reducible refine Below.drew ?_|with_reducible refine Below.alloc ?_ ?_ _|(simp;done)|(simp;omega)))
def Pl.wQ (k f:Int):Int:=if 6≤k then f/16 else 0
theorem rowOf (k s f v:Int) (w:World) (h:Pl.qi k s f v=true) :
  Calls prog 228 #[iv k,iv s,iv f,iv v] w fun e w'=>e=.returned (.tuple #[.agg #[iv v,iv (8*s),iv (f/16),iv (Pl.wQ k f),.bool false],.bool true])∧Below w.heap.size w w':=by
 obtain ⟨k0,k1,h1,f0,f1,hs,v0,v1,_,_⟩:=Pl.qh h
 have h2:Pl.flags f=true:=by simp [Pl.flags,f0,f1]
 have h3:Pl.kin k=true:=by simp [Pl.kin,k0,k1]
 have vb:v<65536:=by
  simp only at v1
  rcases Pl.og hs with ⟨_,e⟩|⟨_,e⟩<;>rw [e] at v1<;>omega
 simp only at v0 v1
 clear h v1
 have s0:0≤s:=by omega
 have s1:s≤2:=by omega
 obtain k6|⟨k6,k7⟩|⟨k6,k7⟩:k=6∨((k==6)=false∧k=7)∨((k==6)=false∧(k==7)=false):=by simp;omega
 ·have E:Hid (f/16=Pl.wQ k f):=hide (by simp [Pl.wQ];omega)
  have c6:(k==6)=true:=by simp [k6]
  clear k6
  go_enter func228,ntmps228
  go_wp2_with (first|(go_at_call 128;refine st (dG _ _ _ (by omega) (by omega)) ?_)|(go_at_call 86;refine st (rO _ _) ?_)|(go_at_call 246;refine st (uO _ _) ?_)|(go_at_call 226;refine st (uC _ _ s0 s1) ?_))
  refine bodyPost_ret (v:=.tuple #[.agg #[iv v,iv (8*s),iv (f/16),iv (f/16),.bool false],.bool true]) ?_ rfl ⟨by rw [E.o],?_⟩
  ·rw [results_cell_tmp rfl];go_simp
  ·(repeat' (first|with_reducible exact Below.refl _ _|with_reducible refine Below.drew ?_|with_reducible refine Below.alloc ?_ ?_ _|(simp;done)|(simp;omega)))
 ·have E:Hid (f/16=Pl.wQ k f):=hide (by simp [Pl.wQ];omega)
  have c7:(k==7)=true:=by simp [k7]
  clear k7
  go_enter func228,ntmps228
  go_wp2_with (first|(go_at_call 128;refine st (dG _ _ _ (by omega) (by omega)) ?_)|(go_at_call 86;refine st (rO _ _) ?_)|(go_at_call 246;refine st (uO _ _) ?_)|(go_at_call 226;refine st (uC _ _ s0 s1) ?_))
  refine bodyPost_ret (v:=.tuple #[.agg #[iv v,iv (8*s),iv (f/16),iv (f/16),.bool false],.bool true]) ?_ rfl ⟨by rw [E.o],?_⟩
  ·rw [results_cell_tmp rfl];go_simp
  ·(repeat' (first|with_reducible exact Below.refl _ _|with_reducible refine Below.drew ?_|with_reducible refine Below.alloc ?_ ?_ _|(simp;done)|(simp;omega)))
 ·have E:Hid (0=Pl.wQ k f):=hide (by
   have:¬6≤k:=by simp at k6 k7;omega
   simp [Pl.wQ,this])
  go_enter func228,ntmps228
  go_wp2_with (first|(go_at_call 128;refine st (dG _ _ _ (by omega) (by omega)) ?_)|(go_at_call 86;refine st (rO _ _) ?_)|(go_at_call 246;refine st (uO _ _) ?_)|(go_at_call 226;refine st (uC _ _ s0 s1) ?_))
  refine bodyPost_ret (v:=.tuple #[.agg #[iv v,iv (8*s),iv (f/16),iv 0,.bool false],.bool true]) ?_ rfl ⟨by rw [←E.o],?_⟩
  ·rw [results_cell_tmp rfl];go_simp
  ·(repeat' (first|with_reducible exact Below.refl _ _|with_reducible refine Below.drew ?_|with_reducible refine Below.alloc ?_ ?_ _|(simp;done)|(simp;omega)))
def Az (m k e:Int):Value:=if m=0 then .iface 202 (.agg #[iv k]) else if m=1 then .iface 203 (.agg #[iv k]) else if m=2 then .iface 212 (.agg #[iv k]) else if m=3 then .iface 213 (.agg #[iv k]) else if m=4 then .iface 214 (.agg #[iv k]) else if m=5 then .iface 216 (.agg #[iv k,iv e]) else if m=6 then .iface 217 (.agg #[iv e]) else .iface 205 (.agg #[iv e])
theorem U3 (v:Value) (w:World):(Instr.typeAssert (.iface 202 v) 174 202 true).run prog w=.ok (.tuple #[v,.bool true]) w:=by kernel_rfl
theorem Xz (v:Value) (w:World):(Instr.typeAssert (.iface 203 v) 174 202 true).run prog w=.ok (.tuple #[.agg #[iv 0],.bool false]) w:=by kernel_rfl
theorem Xy (v:Value) (w:World):(Instr.typeAssert (.iface 203 v) 174 203 true).run prog w=.ok (.tuple #[v,.bool true]) w:=by kernel_rfl
theorem U2 (v:Value) (w:World):(Instr.typeAssert (.iface 212 v) 174 202 true).run prog w=.ok (.tuple #[.agg #[iv 0],.bool false]) w:=by kernel_rfl
theorem Xx (v:Value) (w:World):(Instr.typeAssert (.iface 212 v) 174 203 true).run prog w=.ok (.tuple #[.agg #[iv 0],.bool false]) w:=by kernel_rfl
theorem Xw (v:Value) (w:World):(Instr.typeAssert (.iface 212 v) 174 205 true).run prog w=.ok (.tuple #[.agg #[iv 0],.bool false]) w:=by kernel_rfl
theorem U1 (v:Value) (w:World):(Instr.typeAssert (.iface 213 v) 174 202 true).run prog w=.ok (.tuple #[.agg #[iv 0],.bool false]) w:=by kernel_rfl
theorem Xv (v:Value) (w:World):(Instr.typeAssert (.iface 213 v) 174 203 true).run prog w=.ok (.tuple #[.agg #[iv 0],.bool false]) w:=by kernel_rfl
theorem Xu (v:Value) (w:World):(Instr.typeAssert (.iface 213 v) 174 205 true).run prog w=.ok (.tuple #[.agg #[iv 0],.bool false]) w:=by kernel_rfl
theorem U0 (v:Value) (w:World):(Instr.typeAssert (.iface 214 v) 174 202 true).run prog w=.ok (.tuple #[.agg #[iv 0],.bool false]) w:=by kernel_rfl
theorem Xt (v:Value) (w:World):(Instr.typeAssert (.iface 214 v) 174 203 true).run prog w=.ok (.tuple #[.agg #[iv 0],.bool false]) w:=by kernel_rfl
theorem Xr (v:Value) (w:World):(Instr.typeAssert (.iface 214 v) 174 205 true).run prog w=.ok (.tuple #[.agg #[iv 0],.bool false]) w:=by kernel_rfl
theorem UZ (v:Value) (w:World):(Instr.typeAssert (.iface 216 v) 174 202 true).run prog w=.ok (.tuple #[.agg #[iv 0],.bool false]) w:=by kernel_rfl
theorem Xq (v:Value) (w:World):(Instr.typeAssert (.iface 216 v) 174 203 true).run prog w=.ok (.tuple #[.agg #[iv 0],.bool false]) w:=by kernel_rfl
theorem Xp (v:Value) (w:World):(Instr.typeAssert (.iface 216 v) 174 205 true).run prog w=.ok (.tuple #[.agg #[iv 0],.bool false]) w:=by kernel_rfl
theorem UY (v:Value) (w:World):(Instr.typeAssert (.iface 217 v) 174 202 true).run prog w=.ok (.tuple #[.agg #[iv 0],.bool false]) w:=by kernel_rfl
theorem Xo (v:Value) (w:World):(Instr.typeAssert (.iface 217 v) 174 203 true).run prog w=.ok (.tuple #[.agg #[iv 0],.bool false]) w:=by kernel_rfl
theorem Xn (v:Value) (w:World):(Instr.typeAssert (.iface 217 v) 174 205 true).run prog w=.ok (.tuple #[.agg #[iv 0],.bool false]) w:=by kernel_rfl
theorem Xm (v:Value) (w:World):(Instr.typeAssert (.iface 205 v) 174 202 true).run prog w=.ok (.tuple #[.agg #[iv 0],.bool false]) w:=by kernel_rfl
theorem Xl (v:Value) (w:World):(Instr.typeAssert (.iface 205 v) 174 203 true).run prog w=.ok (.tuple #[.agg #[iv 0],.bool false]) w:=by kernel_rfl
theorem Xk (v:Value) (w:World):(Instr.typeAssert (.iface 205 v) 174 205 true).run prog w=.ok (.tuple #[v,.bool true]) w:=by kernel_rfl
theorem IQ (z:Int) (w:World) (hz:z=1∨z=2):Calls prog 199 #[iv z] w fun e w'=>e=.returned (iv (Pl.top z-1))∧w'=w:=by
 rcases hz with rfl|rfl
 all_goals
  go_enter func199,ntmps199
  go_wp2_with (go_at_call 226;refine st (uC _ _ (by decide) (by decide)) ?_)
  go_ret
  exact ⟨rfl,rfl⟩
theorem Qq {z x:Int} (hz:z=1∨z=2):bits .and .i64 x (Pl.top z-1)=x%Pl.top z:=by
 rcases hz with rfl|rfl
 ·exact Pl.dP x
 ·exact Pl.gu x
theorem WN (w:World) (lo b g:Nat) (c:Pl.Mc) (h:Bool) (z k:Int) (hC:CAt w lo b g c h) (hz:z=1∨z=2) (k0:0≤k) (k3:k≤3) :
  Calls prog 194 #[.pointer (some ⟨b,0,none⟩),iv z,iv k] w fun e w'=>e=.returned (iv (c.low z k))∧∃n,w'=w.drewN n:=by
 obtain ⟨n,rfl⟩:∃n:Nat,k=(n:Int):=⟨k.toNat,by omega⟩
 have hn:n<4:=by omega
 have q0:=hC.cX hn
 have ha:=Qq (x:=el c.r.xs n) hz
 clear hC
 go_enter func194,ntmps194
 go_wp2_with fail
 go_quiet (first|(go_at_call 199;exact Calls.quiet_of_same (IQ _ _ hz))|fail)
 go_wp2_with fail
 go_ret
 exact ⟨rfl,_,rfl⟩
theorem uh (w:World) (lo b g:Nat) (c:Pl.Mc) (h:Bool) (z v:Int) (hC:CAt w lo b g c h) (v0:0≤v) (v1:v≤65535) :
  Calls prog 196 #[.pointer (some ⟨b,0,none⟩),iv z,iv v] w fun e w'=>e=.returned (.tuple #[])∧CAt w' lo b g (c.aF (Pl.aS z c.r.f v)) h∧Kept b (b+1) w w':=by
 have HC:=hide hC
 have q:=hC.cF
 have qf:=hC.fz
 clear hC
 go_enter func196,ntmps196
 go_wp2_with (go_at_call 225;refine st (jk _ _ _ _ (by omega) (by omega)) ?_)
 go_end0
 exact ⟨rfl,HC.o.aF _,ak _ _ _ _⟩
theorem Ry (m k e:Int) (w:World) (m0:0≤m) (m7:m≤7):Calls prog 200 #[.agg #[iv m,iv k,iv e]] w fun r w'=>r=.returned (Az m k e)∧Kept 0 0 w w':=by
 have:m=0∨m=1∨m=2∨m=3∨m=4∨m=5∨m=6∨m=7:=by omega
 rcases this with rfl|rfl|rfl|rfl|rfl|rfl|rfl|rfl
 ·exact AU k e w
 ·exact AQ k e w
 ·exact AP k e w
 ·exact AO k e w
 ·exact AL k e w
 ·exact AC k e w
 ·exact AB k e w
 ·exact AA k e w
theorem PT (w:World) (lo b g:Nat) (c:Pl.Mc) (h:Bool) (z k e:Int) (hC:CAt w lo b g c h) (hg:Pl.Good c.r) (hz:z=1∨z=2) (k0:0≤k) (k3:k≤3) (x0:0≤e) (x1:e≤65535) :
  Calls prog 201 #[.pointer (some ⟨b,0,none⟩),iv z,.iface 212 (.agg #[iv k])] w fun e' w'=>e'=.returned (.tuple #[iv (Pl.dm c.r z 2 k e),.bool true])∧CAt w' lo b g (c.plc z 2 k e) h∧Kept b (b+1) w w':=by
 have t2:=X6
 have t3:=XZ
 have t4:=XY
 have t5:=Vj
 have t6:=Vh
 obtain ⟨n,rfl⟩:∃n:Nat,k=(n:Int):=⟨k.toNat,by omega⟩
 have hn:n<4:=by omega
 obtain ⟨y0,y1⟩:=hg.aw n hn
 have h4:=hide hg.a4
 have l9:=hC.lt
 have HC:=hide hC
 have EV:Hid (el c.r.ys n=Pl.dm c.r z 2 (n:Int) e):=hide (by simp [Pl.dm])
 have ER:Hid (c.plc z 2 (n:Int) e=c):=hide (by unfold Pl.Mc.plc Pl.dA;rw [if_neg (by decide),if_neg (by decide)];rfl)
 have HN:=hide (Blk.new w #[iv (n:Int)] 212)
 have C1:=hide (hC.alloc (.cells #[iv (n:Int)] 212))
 have HK:=hide (kept_alloc w (.cells #[iv (n:Int)] 212))
 clear hg hC
 obtain ⟨X,hX⟩:∃X:World,w.alloc (.cells #[iv (n:Int)] 212)=X:=⟨_,rfl⟩
 rw [hX] at HN C1 HK
 have i0:(0:Int)≤(n:Int):=by omega
 have i1:(n:Int)<4:=by omega
 have n0:=HN.o.cell (i:=0) rfl
 go_enter func201,ntmps201
 go_wp2_with fail
 clear hX t2 t3 t4 t5 t6
 have q0:=C1.o.cY hn
 go_region
 go_wp2_with fail
 go_ret2
 exact ⟨rIB EV.o rfl,by rw [ER.o];exact C1.o.drew,ae HK.o.any⟩
theorem PQ (w:World) (lo b g:Nat) (c:Pl.Mc) (h:Bool) (z k e:Int) (hC:CAt w lo b g c h) (hg:Pl.Good c.r) (hz:z=1∨z=2) (k0:0≤k) (k3:k≤3) (x0:0≤e) (x1:e≤65535) :
  Calls prog 201 #[.pointer (some ⟨b,0,none⟩),iv z,.iface 216 (.agg #[iv k,iv e])] w fun e' w'=>e'=.returned (.tuple #[iv (Pl.dm c.r z 5 k e),.bool true])∧CAt w' lo b g (c.plc z 5 k e) h∧Kept b (b+1) w w':=by
 have t2:=XM
 have t3:=XL
 have t4:=XJ
 have t5:=Vb
 have t6:=Va
 obtain ⟨n,rfl⟩:∃n:Nat,k=(n:Int):=⟨k.toNat,by omega⟩
 have hn:n<4:=by omega
 obtain ⟨y0,y1⟩:=hg.aw n hn
 have h4:=hide hg.a4
 have l9:=hC.lt
 have HC:=hide hC
 have EV:Hid ((el c.r.ys n+e)%65536=Pl.dm c.r z 5 (n:Int) e):=hide (by simp [Pl.dm])
 have ER:Hid (c.plc z 5 (n:Int) e=c):=hide (by unfold Pl.Mc.plc Pl.dA;rw [if_neg (by decide),if_neg (by decide)];rfl)
 have HN:=hide (Blk.new w #[iv (n:Int),iv e] 216)
 have C1:=hide (hC.alloc (.cells #[iv (n:Int),iv e] 216))
 have HK:=hide (kept_alloc w (.cells #[iv (n:Int),iv e] 216))
 clear hg hC
 obtain ⟨X,hX⟩:∃X:World,w.alloc (.cells #[iv (n:Int),iv e] 216)=X:=⟨_,rfl⟩
 rw [hX] at HN C1 HK
 have i0:(0:Int)≤(n:Int):=by omega
 have i1:(n:Int)<4:=by omega
 have n0:=HN.o.cell (i:=0) rfl
 go_enter func201,ntmps201
 go_wp2_with fail
 clear hX t2 t3 t4 t5 t6
 have q0:=C1.o.cY hn
 have n1:=HN.o.cell (i:=1) rfl
 go_quiet (first|(go_at_call 117;exact Calls.quiet_of_same (iw _ _))|fail)
 go_wp2_with fail
 go_ret2
 exact ⟨rIB EV.o rfl,by rw [ER.o];exact C1.o.any (ax (Kept.refl _ _ _) _),ax HK.o.any _⟩
theorem PP (w:World) (lo b g:Nat) (c:Pl.Mc) (h:Bool) (z k e:Int) (hC:CAt w lo b g c h) (hg:Pl.Good c.r) (hz:z=1∨z=2) (k0:0≤k) (k3:k≤3) (x0:0≤e) (x1:e≤65535) :
  Calls prog 201 #[.pointer (some ⟨b,0,none⟩),iv z,.iface 217 (.agg #[iv e])] w fun e' w'=>e'=.returned (.tuple #[iv (Pl.dm c.r z 6 k e),.bool true])∧CAt w' lo b g (c.plc z 6 k e) h∧Kept b (b+1) w w':=by
 have t2:=XH
 have t3:=XG
 have t4:=XF
 have t5:=U9
 have t6:=U8
 obtain ⟨n,rfl⟩:∃n:Nat,k=(n:Int):=⟨k.toNat,by omega⟩
 have hn:n<4:=by omega
 obtain ⟨y0,y1⟩:=hg.aw n hn
 have h4:=hide hg.a4
 have l9:=hC.lt
 have HC:=hide hC
 have EV:Hid (e=Pl.dm c.r z 6 (n:Int) e):=hide (by simp [Pl.dm])
 have ER:Hid (c.plc z 6 (n:Int) e=c):=hide (by unfold Pl.Mc.plc Pl.dA;rw [if_neg (by decide),if_neg (by decide)];rfl)
 have HN:=hide (Blk.new w #[iv e] 217)
 have C1:=hide (hC.alloc (.cells #[iv e] 217))
 have HK:=hide (kept_alloc w (.cells #[iv e] 217))
 clear hg hC
 obtain ⟨X,hX⟩:∃X:World,w.alloc (.cells #[iv e] 217)=X:=⟨_,rfl⟩
 rw [hX] at HN C1 HK
 have i0:(0:Int)≤(n:Int):=by omega
 have i1:(n:Int)<4:=by omega
 have n0:=HN.o.cell (i:=0) rfl
 go_enter func201,ntmps201
 go_wp2_with fail
 clear hX t2 t3 t4 t5 t6
 go_ret2
 exact ⟨rIB EV.o rfl,by rw [ER.o];exact C1.o,HK.o.any⟩
theorem PS (w:World) (lo b g:Nat) (c:Pl.Mc) (h:Bool) (z k e:Int) (hC:CAt w lo b g c h) (hg:Pl.Good c.r) (hz:z=1∨z=2) (k0:0≤k) (k3:k≤3) (x0:0≤e) (x1:e≤65535) :
  Calls prog 201 #[.pointer (some ⟨b,0,none⟩),iv z,.iface 213 (.agg #[iv k])] w fun e' w'=>e'=.returned (.tuple #[iv (Pl.dm c.r z 3 k e),.bool true])∧CAt w' lo b g (c.plc z 3 k e) h∧Kept b (b+1) w w':=by
 have t2:=XW
 have t3:=XV
 have t4:=XU
 have t5:=Vg
 have t6:=Vf
 obtain ⟨n,rfl⟩:∃n:Nat,k=(n:Int):=⟨k.toNat,by omega⟩
 have hn:n<4:=by omega
 obtain ⟨y0,y1⟩:=hg.aw n hn
 have h4:=hide hg.a4
 have l9:=hC.lt
 have HC:=hide hC
 have EV:Hid (el c.r.ys n=Pl.dm c.r z 3 (n:Int) e):=hide (by simp [Pl.dm])
 obtain ⟨nb0,nb1⟩:1≤Pl.byN z (n:Int)∧Pl.byN z (n:Int)≤2:=by unfold Pl.byN;split<;>omega
 have ew:IntKind.i64.wrap (el c.r.ys n+Pl.byN z (n:Int))=el c.r.ys n+Pl.byN z (n:Int):=by rw [IntKind.wrap_i64];omega
 have ER:Hid (c.plc z 3 (n:Int) e=c.fU n ((el c.r.ys n+Pl.byN z (n:Int))%65536)):=hide (by simp [Pl.Mc.plc,Pl.dA,Pl.Mc.fU,Pl.Mc.dB])
 have HN:=hide (Blk.new w #[iv (n:Int)] 213)
 have C1:=hide (hC.alloc (.cells #[iv (n:Int)] 213))
 have HK:=hide (kept_alloc w (.cells #[iv (n:Int)] 213))
 clear hg hC
 obtain ⟨X,hX⟩:∃X:World,w.alloc (.cells #[iv (n:Int)] 213)=X:=⟨_,rfl⟩
 rw [hX] at HN C1 HK
 have i0:(0:Int)≤(n:Int):=by omega
 have i1:(n:Int)<4:=by omega
 have n0:=HN.o.cell (i:=0) rfl
 go_enter func201,ntmps201
 go_wp2_with fail
 clear hX t2 t3 t4 t5 t6
 have q0:=C1.o.cY hn
 go_region
 go_wp2_with fail
 clear q0 n0
 refine wp_region_still_tail 12 (by kernel_rfl) (by kernel_rfl) ?_
 simp only [List.take_succ_cons,List.take_zero,List.drop_succ_cons,List.drop_zero]
 obtain ⟨Y,hY⟩:∃Y:World,Y={X.drew with drawn:=(X.drew).drawn+1}:=⟨_,rfl⟩
 rw [←hY]
 have CY:Hid (CAt Y lo b g c h):=hide (by rw [hY];exact C1.o.any (ae (ae (Kept.refl _ _ _))))
 have NY:Hid (Blk Y w.heap.size #[iv (n:Int)] 213):=hide (by rw [hY];exact HN.o)
 have KY:Hid (Kept 0 0 w Y):=hide (by rw [hY];exact ae (ae HK.o))
 clear hY
 have q1:=CY.o.cY hn
 have qf:=CY.o.fz (4+n)
 have n1:=NY.o.cell (i:=0) rfl
 iterate 7 still_step
 still_call (zg _ _ _ hz)
 iterate 1 still_step
 still_call (iw _ _)
 iterate 2 still_step
 refine wpStill_nil ?_
 go_wp2_with fail
 go_ret2
 exact ⟨rIB EV.o rfl,by rw [ER.o];exact CY.o.vz h4.o hn _,ag KY.o.any _ _ _ (.inl ⟨by omega,by omega⟩)⟩
theorem PR (w:World) (lo b g:Nat) (c:Pl.Mc) (h:Bool) (z k e:Int) (hC:CAt w lo b g c h) (hg:Pl.Good c.r) (hz:z=1∨z=2) (k0:0≤k) (k3:k≤3) (x0:0≤e) (x1:e≤65535) :
  Calls prog 201 #[.pointer (some ⟨b,0,none⟩),iv z,.iface 214 (.agg #[iv k])] w fun e' w'=>e'=.returned (.tuple #[iv (Pl.dm c.r z 4 k e),.bool true])∧CAt w' lo b g (c.plc z 4 k e) h∧Kept b (b+1) w w':=by
 have t2:=XR
 have t3:=XQ
 have t4:=XP
 have t5:=Ve
 have t6:=Vd
 obtain ⟨n,rfl⟩:∃n:Nat,k=(n:Int):=⟨k.toNat,by omega⟩
 have hn:n<4:=by omega
 obtain ⟨y0,y1⟩:=hg.aw n hn
 have h4:=hide hg.a4
 have l9:=hC.lt
 have HC:=hide hC
 have EV:Hid ((el c.r.ys n-Pl.byN z (n:Int))%65536=Pl.dm c.r z 4 (n:Int) e):=hide (by simp [Pl.dm])
 obtain ⟨nb0,nb1⟩:1≤Pl.byN z (n:Int)∧Pl.byN z (n:Int)≤2:=by unfold Pl.byN;split<;>omega
 have ew:IntKind.i64.wrap (el c.r.ys n-Pl.byN z (n:Int))=el c.r.ys n-Pl.byN z (n:Int):=by rw [IntKind.wrap_i64];omega
 have ER:Hid (c.plc z 4 (n:Int) e=c.fU n ((el c.r.ys n-Pl.byN z (n:Int))%65536)):=hide (by simp [Pl.Mc.plc,Pl.dA,Pl.Mc.fU,Pl.Mc.dB])
 have HN:=hide (Blk.new w #[iv (n:Int)] 214)
 have C1:=hide (hC.alloc (.cells #[iv (n:Int)] 214))
 have HK:=hide (kept_alloc w (.cells #[iv (n:Int)] 214))
 clear hg hC
 obtain ⟨X,hX⟩:∃X:World,w.alloc (.cells #[iv (n:Int)] 214)=X:=⟨_,rfl⟩
 rw [hX] at HN C1 HK
 have i0:(0:Int)≤(n:Int):=by omega
 have i1:(n:Int)<4:=by omega
 have n0:=HN.o.cell (i:=0) rfl
 go_enter func201,ntmps201
 go_wp2_with fail
 clear hX t2 t3 t4 t5 t6
 clear n0
 refine wp_region_still_tail 18 (by kernel_rfl) (by kernel_rfl) ?_
 simp only [List.take_succ_cons,List.take_zero,List.drop_succ_cons,List.drop_zero]
 obtain ⟨Y,hY⟩:∃Y:World,Y={X with drawn:=(X).drawn+1}:=⟨_,rfl⟩
 rw [←hY]
 have CY:Hid (CAt Y lo b g c h):=hide (by rw [hY];exact C1.o.any (ae (Kept.refl _ _ _)))
 have NY:Hid (Blk Y w.heap.size #[iv (n:Int)] 214):=hide (by rw [hY];exact HN.o)
 have KY:Hid (Kept 0 0 w Y):=hide (by rw [hY];exact ae HK.o)
 clear hY
 have q1:=CY.o.cY hn
 have qf:=CY.o.fz (4+n)
 have n1:=NY.o.cell (i:=0) rfl
 iterate 13 still_step
 still_call (zg _ _ _ hz)
 iterate 1 still_step
 still_call (iw _ _)
 iterate 2 still_step
 refine wpStill_nil ?_
 go_wp2_with fail
 go_region
 go_wp2_with fail
 go_ret2
 exact ⟨rIB EV.o rfl,by rw [ER.o];exact (CY.o.vz h4.o hn _).drew,ae (ag KY.o.any _ _ _ (.inl ⟨by omega,by omega⟩))⟩
theorem PV (w:World) (b:Nat) (z:Int) (v:Value) :
  Calls prog 201 #[.pointer (some ⟨b,0,none⟩),iv z,.iface 202 v] w fun e' w'=>e'=.returned (.tuple #[iv 0,.bool false])∧w'=w:=by
 have t2:=Ye
 have t3:=Yd
 have t4:=Yc
 have t5:=Vo
 have t6:=Vm
 go_enter func201,ntmps201
 go_wp2_with fail
 go_ret2
 exact ⟨rfl,rfl⟩
theorem PU (w:World) (b:Nat) (z:Int) (v:Value) :
  Calls prog 201 #[.pointer (some ⟨b,0,none⟩),iv z,.iface 203 v] w fun e' w'=>e'=.returned (.tuple #[iv 0,.bool false])∧w'=w:=by
 have t2:=Ya
 have t3:=X9
 have t4:=X8
 have t5:=Vl
 have t6:=Vk
 go_enter func201,ntmps201
 go_wp2_with fail
 go_ret2
 exact ⟨rfl,rfl⟩
theorem PO (w:World) (b:Nat) (z:Int) (v:Value) :
  Calls prog 201 #[.pointer (some ⟨b,0,none⟩),iv z,.iface 205 v] w fun e' w'=>e'=.returned (.tuple #[iv 0,.bool false])∧w'=w:=by
 have t2:=XD
 have t3:=XC
 have t4:=XB
 have t5:=U7
 have t6:=U6
 go_enter func201,ntmps201
 go_wp2_with fail
 go_ret2
 exact ⟨rfl,rfl⟩
def Pl.Mc.slot (c:Pl.Mc) (z m k e:Int):Pl.Mc:=bif Pl.Mc.gU m then c else c.plc z m k e
theorem PN (w:World) (lo b g:Nat) (c:Pl.Mc) (h:Bool) (z m k e:Int) (hC:CAt w lo b g c h) (hg:Pl.Good c.r) (hz:z=1∨z=2) (m0:0≤m) (m7:m≤7) (k0:0≤k) (k3:k≤3) (x0:0≤e) (x1:e≤65535) :
  Calls prog 201 #[.pointer (some ⟨b,0,none⟩),iv z,Az m k e] w fun e' w'=>e'=.returned (.tuple #[iv (c.readA z m k e),.bool (!Pl.Mc.gU m)])∧CAt w' lo b g (c.slot z m k e) h∧Kept b (b+1) w w':=by
 have:m=0∨m=1∨m=2∨m=3∨m=4∨m=5∨m=6∨m=7:=by omega
 rcases this with rfl|rfl|rfl|rfl|rfl|rfl|rfl|rfl
 ·refine (PV w b z (.agg #[iv k])).mono ?_;rintro e9 w9 ⟨rfl,rfl⟩;exact ⟨rfl,hC,Kept.refl _ _ _⟩
 ·refine (PU w b z (.agg #[iv k])).mono ?_;rintro e9 w9 ⟨rfl,rfl⟩;exact ⟨rfl,hC,Kept.refl _ _ _⟩
 ·exact PT w lo b g c h z k e hC hg hz k0 k3 x0 x1
 ·exact PS w lo b g c h z k e hC hg hz k0 k3 x0 x1
 ·exact PR w lo b g c h z k e hC hg hz k0 k3 x0 x1
 ·exact PQ w lo b g c h z k e hC hg hz k0 k3 x0 x1
 ·exact PP w lo b g c h z k e hC hg hz k0 k3 x0 x1
 ·refine (PO w b z (.agg #[iv e])).mono ?_;rintro e9 w9 ⟨rfl,rfl⟩;exact ⟨rfl,hC,Kept.refl _ _ _⟩
theorem nY (w:World) (lo b g:Nat) (c:Pl.Mc) (h:Bool) (z k:Int) (hC:CAt w lo b g c h) (hz:z=1∨z=2) (k0:0≤k) (k3:k≤3) :
  Calls prog 194 #[.pointer (some ⟨b,0,none⟩),iv z,iv k] w fun e w'=>e=.returned (iv (c.low z k))∧Kept 0 0 w w':=by
 refine (WN w lo b g c h z k hC hz k0 k3).mono ?_
 rintro e w' ⟨rfl,n,rfl⟩
 exact ⟨rfl,ax (Kept.refl _ _ _) _⟩
theorem QP {w W W':World} {lo hi l h:Nat} (k:Kept lo hi w W) (m:Kept l h W W') (hg:w.heap.size≤l):Kept lo hi w W':=
 ⟨m.os.trans k.os,m.tape.trans k.tape,m.output.trans k.output,Nat.le_trans k.size m.size,fun i hi hn=>(m.block i (Nat.lt_of_lt_of_le hi k.size) (by omega)).trans (k.block i hi hn)⟩
theorem lG (m k e:Int):∃(T:TypeId) (U:Value),Az m k e=.iface T U:=by
 unfold Az;repeat' split
 all_goals exact ⟨_,_,rfl⟩
theorem rZ (w:World) (lo b g:Nat) (c:Pl.Mc) (h:Bool) (x:Pl.In) (hC:CAt w lo b g c h) (G:Pl.GM c) (B:Pl.InB x) :
  Calls prog 166 #[.pointer (some ⟨b,0,none⟩),.agg (inX x)] w fun e w'=>e=.returned (.agg #[Az x.m x.k x.e,iv x.z,iv (c.readA x.z x.m x.k x.e)])∧CAt w' lo b g (c.slot x.z x.m x.k x.e) h∧Kept b (b+1) w w':=by
 obtain ⟨l0,l1,l2,l3,l4⟩:=hC.lt
 have HB:=hide B
 have HG:=hide G.g
 have K0:=hide (ah (kept_alloc w (.cells (inX x) 109)) (.cells #[.nilIface,iv 0,iv 0] 176))
 have C0:=hide ((hC.alloc (.cells (inX x) 109)).alloc (.cells #[.nilIface,iv 0,iv 0] 176))
 have I0:=hide ((Blk.new w (inX x) 109).alloc (.cells #[.nilIface,iv 0,iv 0] 176))
 have R0:=Blk.new (w.alloc (.cells (inX x) 109)) #[.nilIface,iv 0,iv 0] 176
 simp only [World.size_alloc] at R0
 replace R0:=hide R0
 obtain ⟨X,hX⟩:∃X:World,(w.alloc (.cells (inX x) 109)).alloc (.cells #[.nilIface,iv 0,iv 0] 176)=X:=⟨_,rfl⟩
 rw [hX] at K0 C0 I0 R0
 obtain ⟨T,U,hV⟩:=lG x.m x.k x.e
 have HV:=hide hV
 obtain ⟨A,hA⟩:∃A,A=c.readA x.z x.m x.k x.e:=⟨_,rfl⟩
 have HA:=hide hA
 rw [hV,←hA]
 clear hC G B hV hA
 have p:=I0.o.all
 go_enter func166,ntmps166
 go_wp2_with (go_at_call 200;refine (Ry x.m x.k x.e _ HB.o.m0 HB.o.m1).mono ?_;rintro e9 W1 ⟨rfl,k1⟩;rw [HV.o];have C1:=hide (C0.o.any k1);have I1:=hide (I0.o.af k1);have R1:=hide (R0.o.af k1);have K1:=hide (K0.o.trans k1);clear k1)
 clear hX p
 have p:=I1.o.cell (i:=1) rfl
 go_region_held3 (fun w'=>w'.cell? ⟨w.heap.size,1,none⟩=some (iv x.z)) (first|with_reducible exact I2.o.cell (i:=1) rfl|with_reducible exact I1.o.cell (i:=1) rfl|exact (show Blk _ _ _ _ from I1.o).cell (i:=1) rfl)
  (first|(go_at_call 201;rw [←HV.o];refine (PN _ lo b g c h x.z x.m x.k x.e C1.o.drew HG.o HB.o.z HB.o.m0 HB.o.m1 HB.o.k0 HB.o.k1 HB.o.e0 HB.o.e1).mono ?_;rintro e9 W2 ⟨rfl,hc2,kd⟩;rw [←HA.o];try rw [HV.o];have k2:=cZ kd;have C2:=hide hc2;have I2:=hide (I1.o.kept k2 (by omega));have R2:=hide (R1.o.kept k2 (by omega));have K2:=hide (K1.o.any.trans k2);clear kd k2 hc2))
 clear p
 have p2:=I2.o.all
 have r2:=R2.o.all
 have rf2:=R2.o.fz
 go_wp2_with fail
 have K3:=((ak W2 (w.heap.size+1) 0 (.iface T U)).one 1 (iv x.z)).one 2 (iv A)
 refine bodyPost_ret (v:=.agg #[.iface T U,iv x.z,iv A]) ?_ rfl ⟨rfl,C2.o.kept K3 (by omega) (by omega),QP K2.o K3 (by omega)⟩
 rw [aj rfl];go_simp
theorem Ug (w:World) (lo b g:Nat) (c:Pl.Mc) (h:Bool) (z a k:Int) (hC:CAt w lo b g c h) (hz:z=1∨z=2) (k0:0≤k) (k3:k≤3) :
  Calls prog 192 #[.pointer (some ⟨b,0,none⟩),.agg #[.iface 202 (.agg #[iv k]),iv z,iv a]] w fun e w'=>e=.returned (.tuple #[iv (c.low z k),.agg ftZ])∧CAt w' lo b g c h∧Kept 0 0 w w':=by
 have t0:=U3
 obtain ⟨l0,l1,l2,l3,l4⟩:=hC.lt
 have K0:=hide (ah (kept_alloc w (.cells #[.iface 202 (.agg #[iv k]),iv z,iv a] 176)) (.cells ftZ 49))
 have C0:=hide ((hC.alloc (.cells #[.iface 202 (.agg #[iv k]),iv z,iv a] 176)).alloc (.cells ftZ 49))
 have I0:=hide ((Blk.new w #[.iface 202 (.agg #[iv k]),iv z,iv a] 176).alloc (.cells ftZ 49))
 have R0:=Blk.new (w.alloc (.cells #[.iface 202 (.agg #[iv k]),iv z,iv a] 176)) ftZ 49
 simp only [World.size_alloc] at R0
 replace R0:=hide R0
 obtain ⟨X,hX⟩:∃X:World,(w.alloc (.cells #[.iface 202 (.agg #[iv k]),iv z,iv a] 176)).alloc (.cells ftZ 49)=X:=⟨_,rfl⟩
 rw [hX] at K0 C0 I0 R0
 have p:=I0.o.all
 have r:=R0.o.all
 have rf:=R0.o.fz
 have sX:w.heap.size+1<X.heap.size:=R0.o.lt
 have K1:=hide (ah K0.o (.cells #[iv k] 202))
 have C1:=hide (C0.o.alloc (.cells #[iv k] 202))
 have R1:=hide (R0.o.alloc (.cells #[iv k] 202))
 have I1:=hide (I0.o.alloc (.cells #[iv k] 202))
 have N1:=hide (Blk.new X #[iv k] 202)
 obtain ⟨W1,hW⟩:∃W:World,X.alloc (.cells #[iv k] 202)=W:=⟨_,rfl⟩
 rw [hW] at K1 C1 R1 I1 N1
 have p1:=I1.o.all
 have r1:=R1.o.all
 have rf1:=R1.o.fz
 have n1:=N1.o.all
 have nf1:=N1.o.fz
 have s1:X.heap.size<W1.heap.size:=N1.o.lt
 clear hC
 go_enter func192,ntmps192
 go_wp2_with (go_at_call 194;refine (nY _ lo b g c h z k C1.o hz k0 k3).mono ?_;rintro e9 W2 ⟨rfl,k1⟩;have C2:=hide (C1.o.any k1);have R2:=hide (R1.o.af k1);have K2:=hide (K1.o.trans k1);have r2:=R2.o.all;have rf2:=R2.o.fz;clear k1)
 have K3:=(((((ak W2 (w.heap.size+1) 0 (iv 0)).one 1 (iv 0)).one 2 (iv 0)).one 3 (iv 0)).one 4 (.bool false))
 refine bodyPost_ret (v:=.tuple #[iv (c.low z k),.agg ftZ]) ?_ rfl ⟨rfl,C2.o.kept K3 (by omega) (by omega),bP K2.o K3 (by omega)⟩
 rw [gZ rfl];go_simp
theorem Uf (w:World) (lo b g:Nat) (c:Pl.Mc) (h:Bool) (z a k:Int) (hC:CAt w lo b g c h) (k0:0≤k) (k3:k≤3) :
  Calls prog 192 #[.pointer (some ⟨b,0,none⟩),.agg #[.iface 203 (.agg #[iv k]),iv z,iv a]] w fun e w'=>e=.returned (.tuple #[iv (el c.r.ys k.toNat),.agg ftZ])∧CAt w' lo b g c h∧Kept 0 0 w w':=by
 obtain ⟨n,rfl⟩:∃n:Nat,k=(n:Int):=⟨k.toNat,by omega⟩
 have hn:n<4:=by omega
 have t0:=Xz
 have t1:=Xy
 obtain ⟨l0,l1,l2,l3,l4⟩:=hC.lt
 have K0:=hide (ah (kept_alloc w (.cells #[.iface 203 (.agg #[iv (n:Int)]),iv z,iv a] 176)) (.cells ftZ 49))
 have C0:=hide ((hC.alloc (.cells #[.iface 203 (.agg #[iv (n:Int)]),iv z,iv a] 176)).alloc (.cells ftZ 49))
 have I0:=hide ((Blk.new w #[.iface 203 (.agg #[iv (n:Int)]),iv z,iv a] 176).alloc (.cells ftZ 49))
 have R0:=Blk.new (w.alloc (.cells #[.iface 203 (.agg #[iv (n:Int)]),iv z,iv a] 176)) ftZ 49
 simp only [World.size_alloc] at R0
 replace R0:=hide R0
 obtain ⟨X,hX⟩:∃X:World,(w.alloc (.cells #[.iface 203 (.agg #[iv (n:Int)]),iv z,iv a] 176)).alloc (.cells ftZ 49)=X:=⟨_,rfl⟩
 rw [hX] at K0 C0 I0 R0
 have p:=I0.o.all
 have r:=R0.o.all
 have rf:=R0.o.fz
 have sX:w.heap.size+1<X.heap.size:=R0.o.lt
 have K1:=hide (ah K0.o (.cells #[iv (n:Int)] 203))
 have C1:=hide (C0.o.alloc (.cells #[iv (n:Int)] 203))
 have R1:=hide (R0.o.alloc (.cells #[iv (n:Int)] 203))
 have I1:=hide (I0.o.alloc (.cells #[iv (n:Int)] 203))
 have N1:=hide (Blk.new X #[iv (n:Int)] 203)
 obtain ⟨W1,hW⟩:∃W:World,X.alloc (.cells #[iv (n:Int)] 203)=W:=⟨_,rfl⟩
 rw [hW] at K1 C1 R1 I1 N1
 have p1:=I1.o.all
 have r1:=R1.o.all
 have rf1:=R1.o.fz
 have n1:=N1.o.all
 have nf1:=N1.o.fz
 have s1:X.heap.size<W1.heap.size:=N1.o.lt
 clear hC
 have i0:(0:Int)≤(n:Int):=by omega
 have i1:(n:Int)<4:=by omega
 go_enter func192,ntmps192
 go_wp2_with fail
 clear hW hX p r rf
 have q:=C1.o.cY hn
 go_region
 go_wp2_with fail
 have K2:=ae (((((ak W1 (w.heap.size+1) 0 (iv 0)).one 1 (iv 0)).one 2 (iv 0)).one 3 (iv 0)).one 4 (.bool false))
 refine bodyPost_ret (v:=.tuple #[iv (el c.r.ys n),.agg ftZ]) ?_ rfl ⟨rfl,C1.o.kept K2 (by omega) (by omega),bP K1.o K2 (by omega)⟩
 rw [gZ rfl];go_simp
theorem Ue (w:World) (lo b g:Nat) (c:Pl.Mc) (h:Bool) (z a e:Int) (hC:CAt w lo b g c h) :
  Calls prog 192 #[.pointer (some ⟨b,0,none⟩),.agg #[.iface 205 (.agg #[iv e]),iv z,iv a]] w fun e' w'=>e'=.returned (.tuple #[iv e,.agg ftZ])∧CAt w' lo b g c h∧Kept 0 0 w w':=by
 have t0:=Xm
 have t1:=Xl
 have t7:=Xk
 obtain ⟨l0,l1,l2,l3,l4⟩:=hC.lt
 have K0:=hide (ah (kept_alloc w (.cells #[.iface 205 (.agg #[iv e]),iv z,iv a] 176)) (.cells ftZ 49))
 have C0:=hide ((hC.alloc (.cells #[.iface 205 (.agg #[iv e]),iv z,iv a] 176)).alloc (.cells ftZ 49))
 have I0:=hide ((Blk.new w #[.iface 205 (.agg #[iv e]),iv z,iv a] 176).alloc (.cells ftZ 49))
 have R0:=Blk.new (w.alloc (.cells #[.iface 205 (.agg #[iv e]),iv z,iv a] 176)) ftZ 49
 simp only [World.size_alloc] at R0
 replace R0:=hide R0
 obtain ⟨X,hX⟩:∃X:World,(w.alloc (.cells #[.iface 205 (.agg #[iv e]),iv z,iv a] 176)).alloc (.cells ftZ 49)=X:=⟨_,rfl⟩
 rw [hX] at K0 C0 I0 R0
 have p:=I0.o.all
 have r:=R0.o.all
 have rf:=R0.o.fz
 have sX:w.heap.size+1<X.heap.size:=R0.o.lt
 have K1:=hide (ah K0.o (.cells #[iv e] 205))
 have C1:=hide (C0.o.alloc (.cells #[iv e] 205))
 have R1:=hide (R0.o.alloc (.cells #[iv e] 205))
 have I1:=hide (I0.o.alloc (.cells #[iv e] 205))
 have N1:=hide (Blk.new X #[iv e] 205)
 obtain ⟨W1,hW⟩:∃W:World,X.alloc (.cells #[iv e] 205)=W:=⟨_,rfl⟩
 rw [hW] at K1 C1 R1 I1 N1
 have p1:=I1.o.all
 have r1:=R1.o.all
 have rf1:=R1.o.fz
 have n1:=N1.o.all
 have nf1:=N1.o.fz
 have s1:X.heap.size<W1.heap.size:=N1.o.lt
 clear hC
 go_enter func192,ntmps192
 go_wp2_with fail
 have K2:=(((((ak W1 (w.heap.size+1) 0 (iv 0)).one 1 (iv 0)).one 2 (iv 0)).one 3 (iv 0)).one 4 (.bool false))
 refine bodyPost_ret (v:=.tuple #[iv e,.agg ftZ]) ?_ rfl ⟨rfl,C1.o.kept K2 (by omega) (by omega),bP K1.o K2 (by omega)⟩
 rw [gZ rfl];go_simp
theorem wB (w:World) (lo b g:Nat) (c:Pl.Mc) (h:Bool) (z a:Int) (T:TypeId) (U:Value) (t0:∀w,(Instr.typeAssert (.iface T U) 174 202 true).run prog w=.ok (.tuple #[.agg #[iv 0],.bool false]) w) (t1:∀w,(Instr.typeAssert (.iface T U) 174 203 true).run prog w=.ok (.tuple #[.agg #[iv 0],.bool false]) w) (t7:∀w,(Instr.typeAssert (.iface T U) 174 205 true).run prog w=.ok (.tuple #[.agg #[iv 0],.bool false]) w) (hC:CAt w lo b g c h) (G:Pl.GM c) (hf:c.f=Pl.aI) (hz:z=1∨z=2) (a0:0≤a) (a1:a≤65535) :
  Calls prog 192 #[.pointer (some ⟨b,0,none⟩),.agg #[.iface T U,iv z,iv a]] w fun e w'=>∃g',e=.returned (.tuple #[iv (c.jI 1 z a 0),.agg (ftC (c.acc 1 z a 0).f)])∧CAt w' lo b g' (c.acc 1 z a 0) h∧Since w b (b+1) g w' g':=by
 have HA:=hide (Pl.yT hz a0 a1)
 have HG:=hide G
 obtain ⟨F,hF⟩:∃F,F=Pl.Mc.fE Pl.aI 1 z a:=⟨_,rfl⟩
 have HF:=hide hF
 rw [show (c.acc 1 z a 0).f=F by show Pl.Mc.fE c.f 1 z a=F;rw [hf,hF]]
 obtain ⟨V,hV⟩:∃V,V=c.jI 1 z a 0:=⟨_,rfl⟩
 have HV:Hid (V=if (1:Int)=2 then 0 else Pl.lv c.bx 1 z a 0):=hide hV
 rw [←hV]
 obtain ⟨l0,l1,l2,l3,l4⟩:=hC.lt
 have K0:=hide (ah (kept_alloc w (.cells #[.iface T U,iv z,iv a] 176)) (.cells ftZ 49))
 have C0:=hide ((hC.alloc (.cells #[.iface T U,iv z,iv a] 176)).alloc (.cells ftZ 49))
 have I0:=hide ((Blk.new w #[.iface T U,iv z,iv a] 176).alloc (.cells ftZ 49))
 have R0:=Blk.new (w.alloc (.cells #[.iface T U,iv z,iv a] 176)) ftZ 49
 simp only [World.size_alloc] at R0
 replace R0:=hide R0
 obtain ⟨X,hX⟩:∃X:World,(w.alloc (.cells #[.iface T U,iv z,iv a] 176)).alloc (.cells ftZ 49)=X:=⟨_,rfl⟩
 rw [hX] at K0 C0 I0 R0
 have p:=I0.o.all
 have r:=R0.o.all
 have rf:=R0.o.fz
 have sX:w.heap.size+1<X.heap.size:=R0.o.lt
 clear hC G hF hV
 go_enter func192,ntmps192
 go_wp2_with (go_at_call 96;refine (lS _ lo b g c h 1 z a 0 C0.o HG.o HA.o V HV F HF).mono ?_;rintro e9 W1 ⟨g',rfl,hc1,hs1⟩;unfold ftC;have S1:=hide (((Since.refl w b (b+1) g).any K0.o).trans hs1);have C1:=hide hc1;have R1:=hide (hs1.blk R0.o (by omega) (by omega));have n1:=hs1.ne (b:=w.heap.size+1) R0.o.lt (by omega);have r1:=R1.o.all;have rf1:=R1.o.fz;clear hc1 hs1)
 have K2:=(((((ak W1 (w.heap.size+1) 0 (iv F.v)).one 1 (iv F.pc)).one 2 (iv F.ad)).one 3 (iv F.wo)).one 4 (.bool F.wr))
 refine bodyPost_ret (v:=.tuple #[iv V,.agg (ftA F)]) ?_ rfl ⟨g',rfl,C1.o.kept K2 (by omega) (by omega),S1.o.mine K2 (by omega)⟩
 rw [gZ rfl];go_simp
theorem PL (w:World) (lo b g:Nat) (c:Pl.Mc) (h:Bool) (z a k v:Int) (hC:CAt w lo b g c h) (hg:Pl.Good c.r) (hz:z=1∨z=2) (k0:0≤k) (k3:k≤3) (hv:Pl.okv z v=true) :
  Calls prog 197 #[.pointer (some ⟨b,0,none⟩),.agg #[.iface 202 (.agg #[iv k]),iv z,iv a],iv v] w fun e w'=>e=.returned (.agg ftZ)∧CAt w' lo b g (c.put z k v) h∧Kept b (b+1) w w':=by
 have t0:=U3
 have HGd:=hide hg
 have HV:=hide hv
 obtain ⟨l0,l1,l2,l3,l4⟩:=hC.lt
 have K0:=hide (ah (kept_alloc w (.cells #[.iface 202 (.agg #[iv k]),iv z,iv a] 176)) (.cells ftZ 49))
 have C0:=hide ((hC.alloc (.cells #[.iface 202 (.agg #[iv k]),iv z,iv a] 176)).alloc (.cells ftZ 49))
 have I0:=hide ((Blk.new w #[.iface 202 (.agg #[iv k]),iv z,iv a] 176).alloc (.cells ftZ 49))
 have R0:=Blk.new (w.alloc (.cells #[.iface 202 (.agg #[iv k]),iv z,iv a] 176)) ftZ 49
 simp only [World.size_alloc] at R0
 replace R0:=hide R0
 obtain ⟨X,hX⟩:∃X:World,(w.alloc (.cells #[.iface 202 (.agg #[iv k]),iv z,iv a] 176)).alloc (.cells ftZ 49)=X:=⟨_,rfl⟩
 rw [hX] at K0 C0 I0 R0
 have p:=I0.o.all
 have r:=R0.o.all
 have rf:=R0.o.fz
 have sX:w.heap.size+1<X.heap.size:=R0.o.lt
 have K1:=hide (ah K0.o (.cells #[iv k] 202))
 have C1:=hide (C0.o.alloc (.cells #[iv k] 202))
 have R1:=hide (R0.o.alloc (.cells #[iv k] 202))
 have I1:=hide (I0.o.alloc (.cells #[iv k] 202))
 have N1:=hide (Blk.new X #[iv k] 202)
 obtain ⟨W1,hW⟩:∃W:World,X.alloc (.cells #[iv k] 202)=W:=⟨_,rfl⟩
 rw [hW] at K1 C1 R1 I1 N1
 have p1:=I1.o.all
 have r1:=R1.o.all
 have rf1:=R1.o.fz
 have n1:=N1.o.all
 have nf1:=N1.o.fz
 have s1:X.heap.size<W1.heap.size:=N1.o.lt
 clear hC hg hv
 go_enter func197,ntmps197
 go_wp2_with fail
 clear hW hX p r rf p1 r1 rf1 n1
 have n1:=N1.o.cell (i:=0) rfl
 have i1:=I1.o.cell (i:=1) rfl
 go_region_held3 (fun w'=>w'.cell? ⟨X.heap.size,0,none⟩=some (iv k)∧w'.cell? ⟨w.heap.size,1,none⟩=some (iv z)) (first|with_reducible exact ⟨N2.o.cell (i:=0) rfl,I2.o.cell (i:=1) rfl⟩|exact ⟨(show Blk _ _ _ _ from N1.o).cell (i:=0) rfl,(show Blk _ _ _ _ from I1.o).cell (i:=1) rfl⟩)
  (first|(go_at_call 195;refine (LQ _ lo b g c h z k v C1.o.drew HGd.o k0 k3 hz HV.o).mono ?_;rintro e9 W2 ⟨rfl,hc2,kd⟩;have k2:=cZ kd;have C2:=hide hc2;have N2:=hide (N1.o.kept k2 (by omega));have I2:=hide (I1.o.kept k2 (by omega));have R2:=hide (R1.o.kept k2 (by omega));have K2:=hide (K1.o.any.trans k2);clear hc2 kd k2))
 have r2:=R2.o.all
 have rf2:=R2.o.fz
 go_wp2_with fail
 have K3:=(((((ak W2 (w.heap.size+1) 0 (iv 0)).one 1 (iv 0)).one 2 (iv 0)).one 3 (iv 0)).one 4 (.bool false))
 refine bodyPost_ret (v:=.agg ftZ) ?_ rfl ⟨rfl,C2.o.kept K3 (by omega) (by omega),QP K2.o K3 (by omega)⟩
 rw [aj rfl];go_simp
theorem rY (w:World) (lo b g:Nat) (c:Pl.Mc) (h:Bool) (z a v:Int) (T:TypeId) (U:Value) (t0:∀w,(Instr.typeAssert (.iface T U) 174 202 true).run prog w=.ok (.tuple #[.agg #[iv 0],.bool false]) w) (hC:CAt w lo b g c h) (G:Pl.GM c) (hf:c.f=Pl.aI) (ha:Pl.gq 2 z a v=true) :
  Calls prog 197 #[.pointer (some ⟨b,0,none⟩),.agg #[.iface T U,iv z,iv a],iv v] w fun e w'=>∃g',e=.returned (.agg (ftC (c.acc 2 z a v).f))∧CAt w' lo b g' (c.acc 2 z a v) h∧Since w b (b+1) g w' g':=by
 have HA:=hide ha
 have HG:=hide G
 obtain ⟨F,hF⟩:∃F,F=Pl.Mc.fE Pl.aI 2 z a:=⟨_,rfl⟩
 have HF:=hide hF
 rw [show (c.acc 2 z a v).f=F by show Pl.Mc.fE c.f 2 z a=F;rw [hf,hF]]
 obtain ⟨l0,l1,l2,l3,l4⟩:=hC.lt
 have K0:=hide (ah (kept_alloc w (.cells #[.iface T U,iv z,iv a] 176)) (.cells ftZ 49))
 have C0:=hide ((hC.alloc (.cells #[.iface T U,iv z,iv a] 176)).alloc (.cells ftZ 49))
 have I0:=hide ((Blk.new w #[.iface T U,iv z,iv a] 176).alloc (.cells ftZ 49))
 have R0:=Blk.new (w.alloc (.cells #[.iface T U,iv z,iv a] 176)) ftZ 49
 simp only [World.size_alloc] at R0
 replace R0:=hide R0
 obtain ⟨X,hX⟩:∃X:World,(w.alloc (.cells #[.iface T U,iv z,iv a] 176)).alloc (.cells ftZ 49)=X:=⟨_,rfl⟩
 rw [hX] at K0 C0 I0 R0
 have p:=I0.o.all
 have r:=R0.o.all
 have rf:=R0.o.fz
 have sX:w.heap.size+1<X.heap.size:=R0.o.lt
 have K1:=hide (ah K0.o (.cells #[iv 0] 202))
 have C1:=hide (C0.o.alloc (.cells #[iv 0] 202))
 have R1:=hide (R0.o.alloc (.cells #[iv 0] 202))
 have I1:=hide (I0.o.alloc (.cells #[iv 0] 202))
 have N1:=hide (Blk.new X #[iv 0] 202)
 obtain ⟨W1,hW⟩:∃W:World,X.alloc (.cells #[iv 0] 202)=W:=⟨_,rfl⟩
 rw [hW] at K1 C1 R1 I1 N1
 have p1:=I1.o.all
 have r1:=R1.o.all
 have rf1:=R1.o.fz
 have n1:=N1.o.all
 have nf1:=N1.o.fz
 have s1:X.heap.size<W1.heap.size:=N1.o.lt
 have C1b:=hide (C1.o.other X.heap.size 0 (iv 0) (by omega) (by omega))
 have K1b:=hide (bP K1.o (ak W1 X.heap.size 0 (iv 0)) (by omega))
 have R1b:=hide (R1.o.other X.heap.size 0 (iv 0) (by omega))
 clear hC G hF ha
 go_enter func197,ntmps197
 go_wp2_with (go_at_call 96;refine (lS _ lo b g c h 2 z a v C1b.o HG.o HA.o 0 (hide rfl) F HF).mono ?_;rintro e9 W2 ⟨g',rfl,hc2,hs2⟩;unfold ftC;have S2:=hide ((((Since.refl w b (b+1) g).any K1b.o).trans hs2).alloc (.cells (ftA F) 49));have C2:=hide (hc2.alloc (.cells (ftA F) 49));have R2:=hide ((hs2.blk R1b.o (by omega) (by omega)).alloc (.cells (ftA F) 49));have n2:=hs2.ne (b:=w.heap.size+1) R1b.o.lt (by omega);have r2:=R2.o.all;have rf2:=R2.o.fz;clear hc2 hs2)
 have K3:=(((((ak (W2.alloc (.cells (ftA F) 49)) (w.heap.size+1) 0 (iv F.v)).one 1 (iv F.pc)).one 2 (iv F.ad)).one 3 (iv F.wo)).one 4 (.bool F.wr))
 refine bodyPost_ret (v:=.agg (ftA F)) ?_ rfl ⟨g',rfl,C2.o.kept K3 (by omega) (by omega),S2.o.mine K3 (by omega)⟩
 rw [aj rfl];go_simp
theorem yP (w:World) (lo b g:Nat) (c:Pl.Mc) (h:Bool) (z m k e:Int) (hC:CAt w lo b g (c.slot z m k e) h) (G:Pl.GM c) (hf:c.f=Pl.aI) (hz:z=1∨z=2) (m0:0≤m) (m7:m≤7) (k0:0≤k) (k3:k≤3) (x0:0≤e) (x1:e≤65535) :
  Calls prog 192 #[.pointer (some ⟨b,0,none⟩),.agg #[Az m k e,iv z,iv (c.readA z m k e)]] w fun r w'=>∃g',r=.returned (.tuple #[iv (c.bf z m k e),.agg (ftC (c.read z m k e).f)])∧CAt w' lo b g' (c.read z m k e) h∧Since w b (b+1) g w' g':=by
 have hm:m=0∨m=1∨m=2∨m=3∨m=4∨m=5∨m=6∨m=7:=by omega
 have q:=Pl.iT G.g (z:=z) (m:=m) k0 k3 x0 x1
 rcases hm with rfl|rfl|rfl|rfl|rfl|rfl|rfl|rfl
 ·refine (Ug w lo b g c h z _ k hC hz k0 k3).mono ?_
  rintro e9 w9 ⟨rfl,hc,hk⟩
  exact ⟨g,by rw [show (c.read z 0 k e).f=Pl.aI from hf];rfl,hc,(Since.refl _ _ _ _).any hk⟩
 ·refine (Uf w lo b g c h z _ k hC k0 k3).mono ?_
  rintro e9 w9 ⟨rfl,hc,hk⟩
  exact ⟨g,by rw [show (c.read z 1 k e).f=Pl.aI from hf];rfl,hc,(Since.refl _ _ _ _).any hk⟩
 ·exact wB w lo b g (c.plc z 2 k e) h z _ _ _ (U2 _) (Xx _) (Xw _) hC (G.plc k0 k3) hf hz q.1 q.2
 ·exact wB w lo b g (c.plc z 3 k e) h z _ _ _ (U1 _) (Xv _) (Xu _) hC (G.plc k0 k3) hf hz q.1 q.2
 ·exact wB w lo b g (c.plc z 4 k e) h z _ _ _ (U0 _) (Xt _) (Xr _) hC (G.plc k0 k3) hf hz q.1 q.2
 ·exact wB w lo b g (c.plc z 5 k e) h z _ _ _ (UZ _) (Xq _) (Xp _) hC (G.plc k0 k3) hf hz q.1 q.2
 ·exact wB w lo b g (c.plc z 6 k e) h z _ _ _ (UY _) (Xo _) (Xn _) hC (G.plc k0 k3) hf hz q.1 q.2
 ·refine (Ue w lo b g c h z _ e hC).mono ?_
  rintro e9 w9 ⟨rfl,hc,hk⟩
  exact ⟨g,by rw [show (c.read z 7 k e).f=Pl.aI from hf];rfl,hc,(Since.refl _ _ _ _).any hk⟩
theorem uS (w:World) (lo b g:Nat) (c:Pl.Mc) (h:Bool) (z m k e a v:Int) (hC:CAt w lo b g c h) (G:Pl.GM c) (hf:c.f=Pl.aI) (hz:z=1∨z=2) (hm:m=0∨(2≤m∧m≤6)) (k0:0≤k) (k3:k≤3) (a0:0≤a) (a1:a≤65535) (hv:Pl.okv z v=true) :
  Calls prog 197 #[.pointer (some ⟨b,0,none⟩),.agg #[Az m k e,iv z,iv a],iv v] w fun r w'=>∃g',r=.returned (.agg (ftC (c.write z m k a v).f))∧CAt w' lo b g' (c.write z m k a v) h∧Since w b (b+1) g w' g':=by
 have ha:Pl.gq 2 z a v=true:=by
  have h1:Pl.addr a=true:=by simp [Pl.addr];omega
  unfold Pl.gq;rw [hv,h1];rfl
 have hm:m=0∨m=2∨m=3∨m=4∨m=5∨m=6:=by omega
 rcases hm with rfl|rfl|rfl|rfl|rfl|rfl
 ·refine (PL w lo b g c h z a k v hC G.g hz k0 k3 hv).mono ?_
  rintro e9 w9 ⟨rfl,hc,hk⟩
  exact ⟨g,by rw [show (c.write z 0 k a v).f=Pl.aI from hf];rfl,hc,(Since.refl _ _ _ _).ai hk (Nat.le_refl _) (Nat.le_refl _)⟩
 ·exact rY w lo b g c h z a v _ _ (U2 _) hC G hf ha
 ·exact rY w lo b g c h z a v _ _ (U1 _) hC G hf ha
 ·exact rY w lo b g c h z a v _ _ (U0 _) hC G hf ha
 ·exact rY w lo b g c h z a v _ _ (UZ _) hC G hf ha
 ·exact rY w lo b g c h z a v _ _ (UY _) hC G hf ha
theorem WJ (w:World) (lo b g:Nat) (c:Pl.Mc) (h:Bool) (v:Int) (hC:CAt w lo b g c h) (G:Pl.GM c) (hf:c.f=Pl.aI) (v0:0≤v) (v1:v≤65535) :
  Calls prog 95 #[.pointer (some ⟨b,0,none⟩),iv v] w fun e w'=>∃g',e=.returned (.agg (ftC (c.push v).f))∧CAt w' lo b g' (c.push v) h∧Since w b (b+1) g w' g':=by
 have HA:=hide (Pl.wG (c:=c) v0 v1)
 obtain ⟨F,hF⟩:∃F,F=Pl.Mc.fE Pl.aI 2 2 c.spA:=⟨_,rfl⟩
 have HF:=hide hF
 have EF:Hid ((c.acc 2 2 c.spA v).f=F):=hide (by show Pl.Mc.fE c.f 2 2 c.spA=F;rw [hf,hF])
 obtain ⟨A,hA⟩:∃A,A=c.spA:=⟨_,rfl⟩
 rw [←hA] at HA HF EF
 have eA:(el c.r.ys 3-2)%65536=A:=hA.symm
 have HPA:Hid (c.spA=A):=hide hA.symm
 clear hA hF
 obtain ⟨l0,l1,l2,l3,l4⟩:=hC.lt
 obtain ⟨a30,a31⟩:=G.g.aw 3 (by omega)
 have h4:=hide G.g.a4
 have HG:=hide G
 have C0:=hide (hC.alloc (.cells ftZ 49))
 have R0:=hide (Blk.new w ftZ 49)
 have K0:=hide (kept_alloc w (.cells ftZ 49))
 obtain ⟨X,hX⟩:∃X:World,w.alloc (.cells ftZ 49)=X:=⟨_,rfl⟩
 rw [hX] at C0 R0 K0
 have x7:X.cell? ⟨b,7,none⟩=some (iv (el c.r.ys 3)):=C0.o.cY (k:=3) (by omega)
 clear hC G
 cases hv:(F.v != 0)
 ·have E:Hid (c.push v=(c.acc 2 2 A v).fU 3 A):=hide (by
   unfold Pl.Mc.push;rw [HPA.o]
   rw [show (c.acc 2 2 A v).fine=true by unfold Pl.Mc.fine;rw [EF.o];simpa using hv];rfl)
  go_enter func95,ntmps95
  go_wp2_with (first|(go_at_call 117;refine st (iw _ _) ?_;rw [eA])|(go_at_call 96;refine (lS _ lo b g c h 2 2 A v C0.o HG.o HA.o 0 (hide rfl) F HF).mono ?_;rintro e w3 ⟨g',rfl,hc3,hs3⟩;unfold ftC;have S3:=hide (((Since.refl w b (b+1) g).any K0.o).trans hs3);have R3:=hide ((hs3.blk R0.o (by omega) (by omega)).alloc (.cells (ftA F) 49));have C3:=hide (hc3.alloc (.cells (ftA F) 49));have L3:=hide (Blk.new w3 (ftA F) 49);have z3:=hs3.size;have n3:=hs3.ne (b:=w.heap.size) R0.o.lt (by omega);clear hc3 hs3)|(go_at_call 45;refine (fV F _).mono ?_;rintro e w4 ⟨rfl,k4⟩;have S4:=hide (S3.o.any ((kept_alloc w3 (.cells (ftA F) 49)).trans k4));have R4:=hide (R3.o.af k4);have C4:=hide (C3.o.any k4);have L4:=hide (L3.o.af k4);have y7:w4.cell? ⟨b,7,none⟩=some (iv (el c.r.ys 3)):=C4.o.cY (k:=3) (by omega);have yf:=C4.o.fz;have q:=L4.o.all;have r:=(show Blk w4 w.heap.size ftZ 49 from R4.o).all;have rf:=R4.o.fz;clear k4;rw [hv]))
  have K5:=(((((ak w4 w.heap.size 0 (iv F.v)).one 1 (iv F.pc)).one 2 (iv F.ad)).one 3 (iv F.wo)).one 4 (.bool F.wr))
  have C5:=C4.o.vz h4.o (k:=3) (by omega) A
  have S5:=S4.o.set b 7 (iv A) (.inl (by omega))
  have K5:=(((((ak (w4.setCell ⟨b,7,none⟩ (iv A)) w.heap.size 0 (iv F.v)).one 1 (iv F.pc)).one 2 (iv F.ad)).one 3 (iv F.wo)).one 4 (.bool F.wr))
  refine bodyPost_ret (v:=.agg (ftA F)) ?_ rfl ⟨g',?_,?_,S5.mine K5 (by omega)⟩
  ·rw [aj rfl];go_simp
  ·rw [E.o,show ((c.acc 2 2 A v).fU 3 A).f=F from EF.o];rfl
  ·rw [E.o];exact C5.kept K5 (by omega) (by omega)
 ·have E:Hid (c.push v=c.acc 2 2 A v):=hide (by
   unfold Pl.Mc.push;rw [HPA.o]
   rw [show (c.acc 2 2 A v).fine=false by unfold Pl.Mc.fine;rw [EF.o];simpa using hv];rfl)
  go_enter func95,ntmps95
  go_wp2_with (first|(go_at_call 117;refine st (iw _ _) ?_;rw [eA])|(go_at_call 96;refine (lS _ lo b g c h 2 2 A v C0.o HG.o HA.o 0 (hide rfl) F HF).mono ?_;rintro e w3 ⟨g',rfl,hc3,hs3⟩;unfold ftC;have S3:=hide (((Since.refl w b (b+1) g).any K0.o).trans hs3);have R3:=hide ((hs3.blk R0.o (by omega) (by omega)).alloc (.cells (ftA F) 49));have C3:=hide (hc3.alloc (.cells (ftA F) 49));have L3:=hide (Blk.new w3 (ftA F) 49);have z3:=hs3.size;have n3:=hs3.ne (b:=w.heap.size) R0.o.lt (by omega);clear hc3 hs3)|(go_at_call 45;refine (fV F _).mono ?_;rintro e w4 ⟨rfl,k4⟩;have S4:=hide (S3.o.any ((kept_alloc w3 (.cells (ftA F) 49)).trans k4));have R4:=hide (R3.o.af k4);have C4:=hide (C3.o.any k4);have L4:=hide (L3.o.af k4);have y7:w4.cell? ⟨b,7,none⟩=some (iv (el c.r.ys 3)):=C4.o.cY (k:=3) (by omega);have yf:=C4.o.fz;have q:=L4.o.all;have r:=(show Blk w4 w.heap.size ftZ 49 from R4.o).all;have rf:=R4.o.fz;clear k4;rw [hv]))
  have K5:=(((((ak w4 w.heap.size 0 (iv F.v)).one 1 (iv F.pc)).one 2 (iv F.ad)).one 3 (iv F.wo)).one 4 (.bool F.wr))
  refine bodyPost_ret (v:=.agg (ftA F)) ?_ rfl ⟨g',?_,?_,S4.o.mine K5 (by omega)⟩
  ·rw [aj rfl];go_simp
  ·rw [E.o,EF.o];rfl
  ·rw [E.o];exact C4.o.kept K5 (by omega) (by omega)
theorem Uh (w:World) (lo b g:Nat) (c:Pl.Mc) (h:Bool) (hC:CAt w lo b g c h) (G:Pl.GM c) (hf:c.f=Pl.aI) :
  Calls prog 233 #[.pointer (some ⟨b,0,none⟩)] w fun e w'=>∃g',e=.returned (.tuple #[iv c.eu,.agg (ftC c.pop.f)])∧CAt w' lo b g' (c.pop) h∧Since w b (b+1) g w' g':=by
 obtain ⟨l0,l1,l2,l3,l4⟩:=hC.lt
 obtain ⟨a30,a31⟩:=G.g.aw 3 (by omega)
 have h4:=hide G.g.a4
 have HG:=hide G
 have C0:=hide (hC.alloc (.cells ftZ 49))
 have R0:=hide (Blk.new w ftZ 49)
 have K0:=hide (kept_alloc w (.cells ftZ 49))
 obtain ⟨X,hX⟩:∃X:World,w.alloc (.cells ftZ 49)=X:=⟨_,rfl⟩
 rw [hX] at C0 R0 K0
 have x7:X.cell? ⟨b,7,none⟩=some (iv (el c.r.ys 3)):=C0.o.cY (k:=3) (by omega)
 clear hC G
 have HA:=hide (Pl.iO (k:=1) (.inl rfl) a30 a31)
 obtain ⟨F,hF⟩:∃F,F=Pl.Mc.fE Pl.aI 1 2 (el c.r.ys 3):=⟨_,rfl⟩
 have HF:=hide hF
 have EF:Hid ((c.acc 1 2 (el c.r.ys 3) 0).f=F):=hide (by show Pl.Mc.fE c.f 1 2 _=F;rw [hf,hF])
 obtain ⟨V,hV⟩:∃V,V=c.eu:=⟨_,rfl⟩
 have HV:Hid (V=if (1:Int)=2 then 0 else Pl.lv c.bx 1 2 (el c.r.ys 3) 0):=hide hV
 rw [←hV]
 clear hF hV
 cases hv:(F.v != 0)
 ·have E:Hid (c.pop=(c.acc 1 2 (el c.r.ys 3) 0).fU 3 ((el c.r.ys 3+2)%65536)):=hide (by
   unfold Pl.Mc.pop
   rw [show (c.acc 1 2 (el c.r.ys 3) 0).fine=true by unfold Pl.Mc.fine;rw [EF.o];simpa using hv];rfl)
  go_enter func233,ntmps233
  go_wp2_with (first|(go_at_call 96;refine (lS _ lo b g c h 1 2 (el c.r.ys 3) 0 C0.o HG.o HA.o V HV F HF).mono ?_;rintro e w3 ⟨g',rfl,hc3,hs3⟩;unfold ftC;have S3:=hide (((Since.refl w b (b+1) g).any K0.o).trans hs3);have R3:=hide ((hs3.blk R0.o (by omega) (by omega)).alloc (.cells (ftA F) 49));have C3:=hide (hc3.alloc (.cells (ftA F) 49));have L3:=hide (Blk.new w3 (ftA F) 49);have z3:=hs3.size;have n3:=hs3.ne (b:=w.heap.size) R0.o.lt (by omega);clear hc3 hs3)|(go_at_call 45;refine (fV F _).mono ?_;rintro e w4 ⟨rfl,k4⟩;have S4:=hide (S3.o.any ((kept_alloc w3 (.cells (ftA F) 49)).trans k4));have R4:=hide (R3.o.af k4);have C4:=hide (C3.o.any k4);have L4:=hide (L3.o.af k4);have y7:w4.cell? ⟨b,7,none⟩=some (iv (el c.r.ys 3)):=C4.o.cY (k:=3) (by omega);have yf:=C4.o.fz;have q:=L4.o.all;have r:=(show Blk w4 w.heap.size ftZ 49 from R4.o).all;have rf:=R4.o.fz;clear k4;rw [hv]))
  go_region_with (first|(go_at_call 117;refine st (iw _ _) ?_))
  go_wp2_with fail
  go_region
  go_wp2_with fail
  have C5:=C4.o.vz h4.o (k:=3) (by omega) ((el c.r.ys 3+2)%65536)
  have S5:=S4.o.set b 7 (iv ((el c.r.ys 3+2)%65536)) (.inl (by omega))
  have K5:=ae (ae ((((((ak (w4.setCell ⟨b,7,none⟩ (iv ((el c.r.ys 3+2)%65536))) w.heap.size 0 (iv F.v)).one 1 (iv F.pc)).one 2 (iv F.ad)).one 3 (iv F.wo)).one 4 (.bool F.wr))))
  refine bodyPost_ret (v:=.tuple #[iv V,.agg (ftA F)]) ?_ rfl ⟨g',?_,?_,S5.mine K5 (by omega)⟩
  ·rw [gZ rfl];go_simp
  ·rw [E.o,show ((c.acc 1 2 (el c.r.ys 3) 0).fU 3 ((el c.r.ys 3+2)%65536)).f=F from EF.o];rfl
  ·rw [E.o];exact C5.kept K5 (by omega) (by omega)
 ·have E:Hid (c.pop=c.acc 1 2 (el c.r.ys 3) 0):=hide (by
   unfold Pl.Mc.pop
   rw [show (c.acc 1 2 (el c.r.ys 3) 0).fine=false by unfold Pl.Mc.fine;rw [EF.o];simpa using hv];rfl)
  go_enter func233,ntmps233
  go_wp2_with (first|(go_at_call 96;refine (lS _ lo b g c h 1 2 (el c.r.ys 3) 0 C0.o HG.o HA.o V HV F HF).mono ?_;rintro e w3 ⟨g',rfl,hc3,hs3⟩;unfold ftC;have S3:=hide (((Since.refl w b (b+1) g).any K0.o).trans hs3);have R3:=hide ((hs3.blk R0.o (by omega) (by omega)).alloc (.cells (ftA F) 49));have C3:=hide (hc3.alloc (.cells (ftA F) 49));have L3:=hide (Blk.new w3 (ftA F) 49);have z3:=hs3.size;have n3:=hs3.ne (b:=w.heap.size) R0.o.lt (by omega);clear hc3 hs3)|(go_at_call 45;refine (fV F _).mono ?_;rintro e w4 ⟨rfl,k4⟩;have S4:=hide (S3.o.any ((kept_alloc w3 (.cells (ftA F) 49)).trans k4));have R4:=hide (R3.o.af k4);have C4:=hide (C3.o.any k4);have L4:=hide (L3.o.af k4);have y7:w4.cell? ⟨b,7,none⟩=some (iv (el c.r.ys 3)):=C4.o.cY (k:=3) (by omega);have yf:=C4.o.fz;have q:=L4.o.all;have r:=(show Blk w4 w.heap.size ftZ 49 from R4.o).all;have rf:=R4.o.fz;clear k4;rw [hv]))
  go_region
  go_wp2_with fail
  have K5:=ae ((((((ak w4 w.heap.size 0 (iv F.v)).one 1 (iv F.pc)).one 2 (iv F.ad)).one 3 (iv F.wo)).one 4 (.bool F.wr)))
  refine bodyPost_ret (v:=.tuple #[iv V,.agg (ftA F)]) ?_ rfl ⟨g',?_,?_,S4.o.mine K5 (by omega)⟩
  ·rw [gZ rfl];go_simp
  ·rw [E.o,EF.o];rfl
  ·rw [E.o];exact C4.o.kept K5 (by omega) (by omega)
end Go.Proofs.YtkkmnnhaailkcaaGreatDoor
namespace Go.Proofs.YtkkmnnhaailkcaaGreatDoor.Pl
set_option linter.unusedVariables false
def vC (a b:In):Bool:=(a.op==b.op)&&((a.z==b.z)&&((a.r==b.r)&&((a.m==b.m)&&((a.k==b.k)&&((a.e==b.e)&&(a.s==b.s))))))
def fits (x:In):Bool:=vC (decode (oN x%65536) x.e) x
def KN (x:In):Bool := !(x.m==7)||(!(x.z==1)||within x.e 0 255)
theorem vZ (w v:Int):(decode w v).e=bif jV (w/32%8) then v else 0:=by
 show (if fH w=2 then v else 0)=_
 unfold fH
 cases jV (w/32%8)<;>simp
theorem vV (x:In):fits x=true↔(0≤x.op∧x.op≤31)∧(1≤x.z∧x.z≤2)∧(0≤x.r∧x.r≤3)∧(0≤x.m∧x.m≤7)∧(0≤x.k∧x.k≤3)∧(0≤x.s∧x.s≤7)∧(jV x.m=false→x.e=0):=by
 obtain ⟨op,z,r,m,k,e,s⟩:=x
 unfold fits
 have hW:oN ⟨op,z,r,m,k,e,s⟩%65536=(op*2048+(z-1)*1024+r*256+m*32+k*8+s)%65536:=rfl
 generalize oN ⟨op,z,r,m,k,e,s⟩%65536=W at hW
 unfold vC
 rw [vZ]
 simp only [decode,Bool.and_eq_true,beq_iff_eq]
 constructor
 ·rintro ⟨h1,h2,h3,h4,h5,h6,h7⟩
  refine ⟨⟨by omega,by omega⟩,⟨by omega,by omega⟩,⟨by omega,by omega⟩,⟨by omega,by omega⟩,⟨by omega,by omega⟩,⟨by omega,by omega⟩,fun q => ?_⟩
  rw [h4,q] at h6
  simpa using h6.symm
 ·rintro ⟨⟨a1,a2⟩,⟨b1,b2⟩,⟨c1,c2⟩,⟨d1,d2⟩,⟨e1,e2⟩,⟨f1,f2⟩,g⟩
  have hm:W/32%8=m:=by omega
  refine ⟨by omega,by omega,by omega,hm,by omega,?_,by omega⟩
  rw [hm]
  cases q:jV m
  ·rw [g q];rfl
  ·rfl
theorem ok_of_fits (x:In):dH x=(fits x&&(iY x.m x.k x.e&&(KN x&&ay x))):=by
 cases hf:fits x
 ·cases hq:dH x
  ·rfl
  ·exfalso
   have h:=QK hq
   have:fits x=true:=(vV x).2 ⟨by omega,by omega,by omega,by omega,by omega,by omega,h.2.2.2.2.2.2.2.2.2.2.2.2.2⟩
   rw [hf] at this;cases this
 ·obtain ⟨a,b,c,d,e,f,g⟩:=(vV x).1 hf
  obtain ⟨op,z,r,m,k,e',s⟩:=x
  simp only at a b c d e f g
  unfold dH inBase KN lT
  simp only
  have w1:within r 0 3=true:=by simp [within];omega
  have w2:within s 0 7=true:=by simp [within];omega
  have w3:(decide (z=1)||decide (z=2))=true:=by simp;omega
  rw [w1,w2,w3]
  cases ho:iY m k e'
  ·simp
  ·have:0≤e':=by simp [iY,aT,within] at ho;omega
   have w4:(!((m==7)&&(z==1)&&decide (255<e')))=(!(m==7)||(!(z==1)||within e' 0 255)):=by
    rw [Bool.eq_iff_iff];simp [within];omega
   rw [w4]
   simp
end Go.Proofs.YtkkmnnhaailkcaaGreatDoor.Pl
namespace Go.Proofs.YtkkmnnhaailkcaaGreatDoor
open Go.RowKit Go.Proofs.Tryz
set_option linter.unusedVariables false
def G7 (md:Region.Mode) (ops:Array Oper) (i k:Nat):Bool:=((ops[i]?).map fun o=>o.after.any fun e=>Region.binds md e&&e.on==k).getD false
theorem jP {md:Region.Mode} {ops:Array Oper} {l:Array Bool} {i:Nat} (h:i∈Region.ready md ops l):i<ops.size∧l.getD i true=false:=by
 unfold Region.ready at h
 rw [List.mem_filter,Bool.and_eq_true] at h
 refine ⟨List.mem_range.1 h.1,?_⟩
 have:=h.2.1
 revert this
 cases l.getD i true<;>simp
theorem Gh {l:Array Bool} {k:Nat} (h:l.getD k false=true):l.getD k true=true:=by
 unfold Array.getD at *
 split
 ·rename_i hk;simpa [hk] using h
 ·rfl
theorem aB {md:Region.Mode} {ops:Array Oper} {l:Array Bool} {i:Nat} (h:i∈Region.ready md ops l) (k:Nat) (hk:G7 md ops i k=true):l.getD k true=true:=by
 unfold Region.ready at h
 rw [List.mem_filter,Bool.and_eq_true] at h
 have h2:=h.2.2
 unfold G7 at hk
 cases ho:ops[i]? with
 | none=>rw [ho] at hk;simp at hk
 | some o=>
  rw [ho] at hk h2
  simp only [Option.map_some,Option.getD_some] at hk h2
  rw [Array.any_eq_true'] at hk
  obtain ⟨e,he,hb⟩:=hk
  rw [Array.all_eq_true'] at h2
  have h3:=h2 e he
  rw [Bool.and_eq_true] at hb
  rw [hb.1] at h3
  have h4:e.on=k:=by simpa using hb.2
  rw [h4] at h3
  exact Gh (by simpa using h3)
theorem filter_lt {xs:List Nat} {p q:Nat→Bool} (hpq:∀x,q x=true→p x=true) {i:Nat} (hi:i∈xs) (hp:p i=true) (hq:q i=false):(xs.filter q).length<(xs.filter p).length:=by
 induction xs with
 | nil=>cases hi
 | cons x t ih=>
  have hle:(t.filter q).length≤(t.filter p).length:=by
   clear ih hi
   induction t with
   | nil=>simp
   | cons y t ih=>
    cases h1:q y
    ·cases h2:p y<;>simp [h1,h2]<;>omega
    ·simp [h1,hpq y h1];exact ih
  rcases List.mem_cons.1 hi with rfl|hi
  ·simp [hp,hq];omega
  ·have:=ih hi
   cases h1:q x
   ·cases h2:p x<;>simp [h1,h2]<;>omega
   ·simp [h1,hpq x h1];exact this
theorem getD_set_ne {l:Array Bool} {i j:Nat} (h:j≠i):(l.setIfInBounds i true).getD j true=l.getD j true:=by
 simp only [Array.getD_eq_getD_getElem?]
 rw [Array.getElem?_setIfInBounds_ne (Ne.symm h)]
theorem gY {l:Array Bool} {i:Nat}:(l.setIfInBounds i true).getD i true=true:=by
 simp only [Array.getD_eq_getD_getElem?,Array.getElem?_setIfInBounds]
 split
 ·split<;>rfl
 ·rename_i h;exact absurd trivial h
theorem EE {P:Program} {md:Region.Mode} {ops:Array Oper} {Q:Exit→Act→World→Prop} {I:Array Bool→Act→World→Prop}
  (hfin:∀l a w,l.size=ops.size→I l a w→Region.ready md ops l=[]→Q .normal a w)
  (hstep:∀l a w i,I l a w→i∈Region.ready md ops l→wpOp P ops Q i (I (l.setIfInBounds i true)) a w) :
  ∀(fuel:Nat) (l:Array Bool) (a:Act) (w:World),l.size=ops.size→((List.range ops.size).filter fun i => !l.getD i true).length≤fuel→I l a w→wpAny P md ops Q fuel l a w:=by
 intro fuel
 induction fuel with
 | zero=>
  intro l a w hz hn hI
  have h0:Region.ready md ops l=[]:=by
   cases hr:Region.ready md ops l with
   | nil=>rfl
   | cons i t=>
    exfalso
    have hi:i∈Region.ready md ops l:=by rw [hr];simp
    obtain ⟨h1,h2⟩:=jP hi
    have:i∈(List.range ops.size).filter fun i => !l.getD i true:=List.mem_filter.2 ⟨List.mem_range.2 h1,by rw [h2];rfl⟩
    have:=List.length_pos_of_mem this
    omega
  exact ⟨h0,hfin l a w hz hI h0⟩
 | succ n ih=>
  intro l a w hz hn hI
  refine ⟨fun h0=>hfin l a w hz hI h0,fun i hi => ?_⟩
  refine wpOp_mono (fun a' w' h'=>ih _ a' w' (by simp [hz]) ?_ h') (hstep l a w i hI hi)
  obtain ⟨h1,h2⟩:=jP hi
  have:=filter_lt (xs:=List.range ops.size) (p:=fun j => !l.getD j true) (q:=fun j => !(l.setIfInBounds i true).getD j true) (i:=i) (by
   intro x hx
   by_cases e:x=i
   ·subst e;rw [h2];rfl
   ·rw [getD_set_ne e] at hx;exact hx) (List.mem_range.2 h1) (by rw [h2];rfl) (by rw [gY];rfl)
  omega
def Tm (md:Region.Mode) (ops:Array Oper):Bool:=(List.range ops.size).all fun i=>((ops[i]?).map fun o=>o.after.all fun e => !Region.binds md e||decide (e.on<i)).getD true
theorem Bc {md:Region.Mode} {ops:Array Oper} {l:Array Bool} (hz:l.size=ops.size) (hB:Tm md ops=true) (h0:Region.ready md ops l=[]):∀i,i<ops.size→l.getD i true=true:=by
 intro i
 induction i using Nat.strongRecOn with
 | ind i ih=>
  intro hi
  cases hl:l.getD i true
  ·exfalso
   have hm:i∈Region.ready md ops l:=by
    unfold Region.ready
    rw [List.mem_filter,Bool.and_eq_true]
    refine ⟨List.mem_range.2 hi,by rw [hl];rfl,?_⟩
    have hb:=List.all_eq_true.1 hB i (List.mem_range.2 hi)
    rw [Array.getElem?_eq_getElem hi] at hb ⊢
    simp only [Option.map_some,Option.getD_some] at hb ⊢
    rw [Array.all_eq_true'] at hb ⊢
    intro e he
    have h1:=hb e he
    rw [Bool.or_eq_true] at h1 ⊢
    rcases h1 with h1|h1
    ·exact .inl h1
    ·have h2:e.on<i:=by simpa using h1
     have h3:=ih e.on h2 (by omega)
     refine .inr ?_
     unfold Array.getD at h3 ⊢
     split
     ·rename_i hk;simpa [hk] using h3
     ·rename_i hk;omega
   rw [h0] at hm
   cases hm
  ·rfl
theorem wK {P:Program} {ops:Array Oper} {Q:Exit→Act→World→Prop} {id:Nat} {a:Act} {w:World} (I:Array Bool→Act→World→Prop) (hm:P.follows .mixedOrders=true) (hB:Tm .any ops=true)
  (hstart:I (Array.replicate ops.size false) a w.drew)
  (hfin:∀l a w,I l a w→(∀i,i<ops.size→l.getD i true=true)→Q .normal a w)
  (hstep:∀l a w i,I l a w→i∈Region.ready .any ops l→wpOp P ops Q i (I (l.setIfInBounds i true)) a w) :
  (Code.region id ops true).wp P Q a w:=by
 refine wp_region_any hm (EE (I:=I) (fun l a w hz h h0=>hfin l a w h (Bc hz hB h0)) hstep _ _ _ _ (by simp) ?_ hstart)
 exact Nat.le_trans (List.length_filter_le _ _) (by simp)
def Once (l:Array Bool) (i:Nat) (p:Prop):Prop:=l.getD i true=true→p
theorem Once.past {l:Array Bool} {i j:Nat} {p q:Prop} (h:Once l j p) (hn:j≠i) (hp:p→q):Once (l.setIfInBounds i true) j q:=fun e=>hp (h (by rwa [getD_set_ne hn] at e))
theorem Once.now {l:Array Bool} {i j:Nat} {p:Prop} (h:p):Once (l.setIfInBounds i true) j p:=fun _=>h
theorem aA {n i:Nat} {p:Prop} (hi:i<n):Once (Array.replicate n false) i p:=by
 intro e
 simp [Array.getD_eq_getD_getElem?,hi] at e
theorem mQ {n i:Nat} (hi:i<n):(Array.replicate n false).getD i true=false:=by
 simp [Array.getD_eq_getD_getElem?,hi]
structure FR (SL:List Nat) (A0 A:Act):Prop where
 size:A.tmps.size=A0.tmps.size
 defers:A.defers=A0.defers
 o:∀k,k∉SL→A.tmps[k]? = A0.tmps[k]?
theorem FR.refl (SL:List Nat) (A:Act):FR SL A A:=⟨rfl,rfl,fun _ _=>rfl⟩
theorem Be {A:Act} {j k:Nat} {v:Value} (h:k≠j):(A.put (some j) v).tmps[k]? = A.tmps[k]? := by
 show (A.tmps.setIfInBounds j v)[k]? = _
 rw [Array.getElem?_setIfInBounds_ne (Ne.symm h)]
theorem put_eq {A:Act} {k:Nat} {v:Value} (h:k<A.tmps.size):(A.put (some k) v).tmps[k]? = some v:=by
 show (A.tmps.setIfInBounds k v)[k]? = _
 rw [Array.getElem?_setIfInBounds]
 simp [h]
theorem FR.put {SL:List Nat} {A0 A:Act} (h:FR SL A0 A) {k:Nat} (hk:k∈SL) (v:Value):FR SL A0 (A.put (some k) v):=by
 refine ⟨?_,h.defers,fun j hj => ?_⟩
 ·show (A.tmps.setIfInBounds k v).size=_
  rw [Array.size_setIfInBounds];exact h.size
 ·rw [Be (fun e=>hj (by rw [e];exact hk))];exact h.o j hj
theorem Qu {A B:Act} (hs:A.tmps.size=B.tmps.size) (hd:A.defers=B.defers) (h:∀k:Nat,A.tmps[k]? = B.tmps[k]?):A=B:=by
 cases A;cases B
 simp only at hs hd h
 subst hd
 congr 1
 exact Array.ext_getElem? h
theorem Ag {A:Act}:∀(SL:List Nat) (B:Act),A.tmps.size=B.tmps.size→A.defers=B.defers→(∀k,k∉SL→A.tmps[k]? = B.tmps[k]?)→A=SL.foldl (fun a k=>a.put (some k) (A.tmps.getD k undef)) B
 | [],B,hs,hd,h=>Qu hs hd (fun k=>h k (by simp))
 | k :: t,B,hs,hd,h=>by
  refine Ag t (B.put (some k) (A.tmps.getD k undef)) ?_ hd (fun j hj => ?_)
  ·show _=(B.tmps.setIfInBounds k _).size
   rw [Array.size_setIfInBounds];exact hs
  ·by_cases e:j=k
   ·subst e
    by_cases hb:j<B.tmps.size
    ·rw [put_eq hb]
     have:j<A.tmps.size:=by omega
     rw [Array.getElem?_eq_getElem this]
     simp [Array.getD_eq_getD_getElem?,this]
    ·show _=(B.tmps.setIfInBounds j _)[j]?
     rw [Array.getElem?_eq_none (by omega),Array.getElem?_eq_none (by rw [Array.size_setIfInBounds];omega)]
   ·rw [Be e]
    exact h j (by simp [e,hj])
theorem FR.chain {SL:List Nat} {A0 A:Act} (h:FR SL A0 A):A=SL.foldl (fun a k=>a.put (some k) (A.tmps.getD k undef)) A0:=Ag SL A0 h.size h.defers h.o
theorem nV {A:Act} {k:Nat} {v:Value} (h:A.tmps[k]? = some v):A.tmps.getD k undef=v:=by
 rw [Array.getD_eq_getD_getElem?,h];rfl
theorem iI {P:Program} {ops:Array Oper} {Q:Exit→Act→World→Prop} {id:Nat} {a:Act} {w:World} (I:Act→Array Bool→Act→World→Prop) (hm:P.follows .mixedOrders=true) (hB:Tm .any ops=true)
  (hstart:I a (Array.replicate ops.size false) a w.drew)
  (hfin:∀l A w,I a l A w→(∀i,i<ops.size→l.getD i true=true)→Q .normal A w)
  (hstep:∀l A w i,I a l A w→i∈Region.ready .any ops l→wpOp P ops Q i (I a (l.setIfInBounds i true)) A w) :
  (Code.region id ops true).wp P Q a w:=wK (I a) hm hB hstart hfin hstep
theorem Once.n {l:Array Bool} {i j:Nat} {p:Prop} (h:Once l j p) (h1:j≠i:=by decide):Once (l.setIfInBounds i true) j p:=h.past h1 id
theorem Once.q {l:Array Bool} {i j k d:Nat} {A:Act} {u:Value} {v:Option Value} (h:Once l j (A.tmps[k]? = v)) (h1:j≠i:=by decide) (h2:k≠d:=by decide):Once (l.setIfInBounds i true) j ((A.put (some d) u).tmps[k]? = v):=h.past h1 (fun e=>(Be h2).trans e)
theorem bfe (b:Bool):b=false∨b=true:=by cases b<;>simp
theorem jY {P:Program} {ops:Array Oper} {Q:Exit→Act→World→Prop} {i:Nat} {o:Oper} {K:Act→World→Prop} {a:Act} {w:World} (ho:ops[i]? = some o) {j s:Nat} {b:Bool} (hg:o.guard=some (j,b)) (hd:(ops[j]?).bind (·.dst)=some s) (hv:a.tmps[s]? = some (.bool b))
  (h:∀K':Act→World→Prop,(∀a w,K a w→K' a w)→Oper.wp P o a w K' Q):wpOp P ops Q i K a w:=by
 refine wpOp_step ho (fun K' hK => ?_)
 rw [if_pos]
 ·exact h K' hK
 ·unfold Region.wanted yielded
  rw [hg]
  simp only [hd,Option.bind_some,hv]
  simp
theorem mD {P:Program} {ops:Array Oper} {Q:Exit→Act→World→Prop} {i:Nat} {o:Oper} {K:Act→World→Prop} {a:Act} {w:World} (ho:ops[i]? = some o) {j s:Nat} {b c:Bool} (hg:o.guard=some (j,b)) (hd:(ops[j]?).bind (·.dst)=some s) (hv:a.tmps[s]? = some (.bool c)) (hn:c≠b)
  (h:K (a.put o.dst undef) w):wpOp P ops Q i K a w:=by
 refine wpOp_step ho (fun K' hK => ?_)
 rw [if_neg]
 ·exact hK _ _ h
 ·unfold Region.wanted yielded
  rw [hg]
  simp only [hd,Option.bind_some,hv]
  simpa using hn
theorem qg (m k e:Int) (w:World) (T N:Nat) (v:Value) (R:Array Value) (E:Bool) (lo : -9223372036854775808≤e) (hi:e≤9223372036854775807)
  (hw:∀w:World,Calls prog 200 #[.agg #[iv m,iv k,iv e]] w fun r w'=>r=.returned (.iface T v)∧Kept 0 0 w w')
  (hme:∀w:World,(method 358 T v "loop.example/g00389/impl.operand").run prog w=.ok (N,v) w)
  (hc:∀w:World,Calls prog N #[v] w fun r w'=>r=.returned (.agg R)∧Kept 0 0 w w')
  (hfn:∀(a:Array Value) (w:World),(callFunc N a).run prog w=.ok (.enter N a) w)
  (he:∀w:World,(binOp .eql 107 (.agg R) (.agg #[iv m,iv k,iv e])).run prog w=.ok (.bool E) w) :
  Calls prog 188 #[.agg #[iv m,iv k,iv e]] w fun r w'=>r=.returned (.bool (E&&(Pl.within k 0 3&&Pl.aT e)))∧Kept 0 0 w w':=by
 have B0:=hide (Blk.new w #[iv m,iv k,iv e] 107)
 have K0:=hide (kept_alloc w (.cells #[iv m,iv k,iv e] 107))
 obtain ⟨B,hBB⟩:∃B,Pl.within k 0 3=B:=⟨_,rfl⟩
 obtain ⟨C,hCC⟩:∃C,Pl.aT e=C:=⟨_,rfl⟩
 go_enter func188,ntmps188
 go_wp2_with fail
 refine (hw _).mono ?_
 rintro r w1 ⟨rfl,k1⟩
 have B1:=hide (B0.o.af k1)
 have K1:=hide (K0.o.trans k1)
 clear k1 hw
 go_wp2_with fail
 refine iI (fun A0 l A W=>FR [6,7,8,9,10,11,12,13,14,15,16,17,18,19,20,21,22,23,2] A0 A∧Once l 0 (A.tmps[6]? = some (.iface T v))∧Once l 1 (A.tmps[7]? = some (.bool true))∧Once l 2 (A.tmps[8]? = some (.bool true))∧Once l 3 (A.tmps[9]? = some (.iface T v))∧Once l 4 (A.tmps[10]? = some (.agg R))∧Once l 5 (A.tmps[11]? = some (.agg #[iv m,iv k,iv e]))∧Once l 6 (A.tmps[12]? = some (.bool E))∧Once l 7 (A.tmps[13]? = some (.bool E))∧Once l 8 (A.tmps[14]? = some (.bool E))∧Once l 9 (A.tmps[15]? = some (bif E then .pointer (some ⟨w.heap.size,1,none⟩) else undef))∧Once l 10 (A.tmps[16]? = some (bif E then iv k else undef))∧Once l 11 (A.tmps[17]? = some (bif E then .bool B else undef))∧Once l 12 (A.tmps[18]? = some (.bool (E&&B)))∧Once l 13 (A.tmps[19]? = some (.bool (E&&B)))∧Once l 14 (A.tmps[20]? = some (bif (E&&B) then .pointer (some ⟨w.heap.size,2,none⟩) else undef))∧Once l 15 (A.tmps[21]? = some (bif (E&&B) then iv e else undef))∧Once l 16 (A.tmps[22]? = some (bif (E&&B) then .bool C else undef))∧Once l 17 (A.tmps[23]? = some (.bool ((E&&B)&&C)))∧Once l 18 (A.tmps[2]? = some (.bool ((E&&B)&&C)))∧Kept 0 0 w1 W) (by kernel_rfl) (by kernel_rfl) ?start ?fin ?step
 case start=>exact ⟨FR.refl _ _,aA (by decide),aA (by decide),aA (by decide),aA (by decide),aA (by decide),aA (by decide),aA (by decide),aA (by decide),aA (by decide),aA (by decide),aA (by decide),aA (by decide),aA (by decide),aA (by decide),aA (by decide),aA (by decide),aA (by decide),aA (by decide),aA (by decide),ae (Kept.refl _ _ _)⟩
 case fin=>
  intro l A W h hl
  obtain ⟨hFR,o0,o1,o2,o3,o4,o5,o6,o7,o8,o9,o10,o11,o12,o13,o14,o15,o16,o17,o18,hK⟩:=h
  have g:=o18 (hl 18 (by decide))
  have QQ:=hide (K1.o.trans hK)
  have hc9:=hFR.chain
  simp only [List.foldl] at hc9
  rw [nV g] at hc9
  clear hl hK hFR g o0 o1 o2 o3 o4 o5 o6 o7 o8 o9 o10 o11 o12 o13 o14 o15 o16 o17 o18
  generalize A.tmps.getD 6 undef=s6 at hc9
  generalize A.tmps.getD 7 undef=s7 at hc9
  generalize A.tmps.getD 8 undef=s8 at hc9
  generalize A.tmps.getD 9 undef=s9 at hc9
  generalize A.tmps.getD 10 undef=s10 at hc9
  generalize A.tmps.getD 11 undef=s11 at hc9
  generalize A.tmps.getD 12 undef=s12 at hc9
  generalize A.tmps.getD 13 undef=s13 at hc9
  generalize A.tmps.getD 14 undef=s14 at hc9
  generalize A.tmps.getD 15 undef=s15 at hc9
  generalize A.tmps.getD 16 undef=s16 at hc9
  generalize A.tmps.getD 17 undef=s17 at hc9
  generalize A.tmps.getD 18 undef=s18 at hc9
  generalize A.tmps.getD 19 undef=s19 at hc9
  generalize A.tmps.getD 20 undef=s20 at hc9
  generalize A.tmps.getD 21 undef=s21 at hc9
  generalize A.tmps.getD 22 undef=s22 at hc9
  generalize A.tmps.getD 23 undef=s23 at hc9
  subst hc9
  go_simp
  go_wp2_with fail
  go_ret
  exact ⟨rB (by rw [←hBB,←hCC,Bool.and_assoc]),QQ.o⟩
 case step=>
  intro l A W i hI hm
  obtain ⟨hFR,o0,o1,o2,o3,o4,o5,o6,o7,o8,o9,o10,o11,o12,o13,o14,o15,o16,o17,o18,hK⟩:=hI
  obtain ⟨hi1,hi2⟩:=jP hm
  have hsz:Hid (23<A.tmps.size):=hide (by rw [hFR.size];simp)
  have m1:A.tmps[1]? = some (.pointer (some ⟨w.heap.size,0,none⟩)):=(hFR.o 1 (by decide)).trans rfl
  have m3:A.tmps[3]? = some (.iface T v):=(hFR.o 3 (by decide)).trans rfl
  rcases i with _|_|_|_|_|_|_|_|_|_|_|_|_|_|_|_|_|_|_|i
  ·refine wpOp_step rfl (fun KK hK2 => ?_)
   go_simp
   exact hK2 (A.put (some 6) (.iface T v)) _ ⟨hFR.put (by decide) _,.now (put_eq (by have hz:=hsz.o;omega)),o1.q,o2.q,o3.q,o4.q,o5.q,o6.q,o7.q,o8.q,o9.q,o10.q,o11.q,o12.q,o13.q,o14.q,o15.q,o16.q,o17.q,o18.q,hK⟩
  ·have e1:=o0 (aB hm 0 (by kernel_rfl))
   refine wpOp_step rfl (fun KK hK2 => ?_)
   go_simp
   exact hK2 (A.put (some 7) (.bool true)) _ ⟨hFR.put (by decide) _,o0.q,.now (put_eq (by have hz:=hsz.o;omega)),o2.q,o3.q,o4.q,o5.q,o6.q,o7.q,o8.q,o9.q,o10.q,o11.q,o12.q,o13.q,o14.q,o15.q,o16.q,o17.q,o18.q,hK⟩
  ·have e1:=o1 (aB hm 1 (by kernel_rfl))
   refine wpOp_step rfl (fun KK hK2 => ?_)
   go_simp
   exact hK2 (A.put (some 8) (.bool true)) _ ⟨hFR.put (by decide) _,o0.q,o1.q,.now (put_eq (by have hz:=hsz.o;omega)),o3.q,o4.q,o5.q,o6.q,o7.q,o8.q,o9.q,o10.q,o11.q,o12.q,o13.q,o14.q,o15.q,o16.q,o17.q,o18.q,hK⟩
  ·have g:=o2 (aB hm 2 (by kernel_rfl))
   refine jY (b:=true) rfl rfl rfl g (fun KK hK2 => ?_)
   go_simp
   exact hK2 (A.put (some 9) (.iface T v)) _ ⟨hFR.put (by decide) _,o0.q,o1.q,o2.q,.now (put_eq (by have hz:=hsz.o;omega)),o4.q,o5.q,o6.q,o7.q,o8.q,o9.q,o10.q,o11.q,o12.q,o13.q,o14.q,o15.q,o16.q,o17.q,o18.q,hK⟩
  ·have g:=o2 (aB hm 2 (by kernel_rfl))
   have e1:=o3 (aB hm 3 (by kernel_rfl))
   refine jY (b:=true) rfl rfl rfl g (fun KK hK2 => ?_)
   go_simp
   refine (hc W).mono ?_
   rintro r y ⟨rfl,kd⟩
   go_simp
   exact hK2 (A.put (some 10) (.agg R)) _ ⟨hFR.put (by decide) _,o0.q,o1.q,o2.q,o3.q,.now (put_eq (by have hz:=hsz.o;omega)),o5.q,o6.q,o7.q,o8.q,o9.q,o10.q,o11.q,o12.q,o13.q,o14.q,o15.q,o16.q,o17.q,o18.q,(hK.trans kd)⟩
  ·have g:=o2 (aB hm 2 (by kernel_rfl))
   have BL:=B1.o.af hK
   have x0:=BL.all
   clear BL
   refine jY (b:=true) rfl rfl rfl g (fun KK hK2 => ?_)
   go_simp
   exact hK2 (A.put (some 11) (.agg #[iv m,iv k,iv e])) _ ⟨hFR.put (by decide) _,o0.q,o1.q,o2.q,o3.q,o4.q,.now (put_eq (by have hz:=hsz.o;omega)),o6.q,o7.q,o8.q,o9.q,o10.q,o11.q,o12.q,o13.q,o14.q,o15.q,o16.q,o17.q,o18.q,hK⟩
  ·have g:=o2 (aB hm 2 (by kernel_rfl))
   have e1:=o4 (aB hm 4 (by kernel_rfl))
   have e2:=o5 (aB hm 5 (by kernel_rfl))
   refine jY (b:=true) rfl rfl rfl g (fun KK hK2 => ?_)
   go_simp
   exact hK2 (A.put (some 12) (.bool E)) _ ⟨hFR.put (by decide) _,o0.q,o1.q,o2.q,o3.q,o4.q,o5.q,.now (put_eq (by have hz:=hsz.o;omega)),o7.q,o8.q,o9.q,o10.q,o11.q,o12.q,o13.q,o14.q,o15.q,o16.q,o17.q,o18.q,hK⟩
  ·have e1:=o2 (aB hm 2 (by kernel_rfl))
   have e2:=o6 (aB hm 6 (by kernel_rfl))
   refine wpOp_step rfl (fun KK hK2 => ?_)
   go_simp
   exact hK2 (A.put (some 13) (.bool E)) _ ⟨hFR.put (by decide) _,o0.q,o1.q,o2.q,o3.q,o4.q,o5.q,o6.q,.now (put_eq (by have hz:=hsz.o;omega)),o8.q,o9.q,o10.q,o11.q,o12.q,o13.q,o14.q,o15.q,o16.q,o17.q,o18.q,hK⟩
  ·have e1:=o7 (aB hm 7 (by kernel_rfl))
   refine wpOp_step rfl (fun KK hK2 => ?_)
   go_simp
   exact hK2 (A.put (some 14) (.bool E)) _ ⟨hFR.put (by decide) _,o0.q,o1.q,o2.q,o3.q,o4.q,o5.q,o6.q,o7.q,.now (put_eq (by have hz:=hsz.o;omega)),o9.q,o10.q,o11.q,o12.q,o13.q,o14.q,o15.q,o16.q,o17.q,o18.q,hK⟩
  ·have g:=o8 (aB hm 8 (by kernel_rfl))
   rcases bfe E with hE|hE
   ·rw [hE] at g
    refine mD (b:=true) (c:=false) rfl rfl rfl g (by decide) ?_
    exact ⟨hFR.put (by decide) _,o0.q,o1.q,o2.q,o3.q,o4.q,o5.q,o6.q,o7.q,o8.q,.now (by rw [hE];exact put_eq (by have hz:=hsz.o;omega)),o10.q,o11.q,o12.q,o13.q,o14.q,o15.q,o16.q,o17.q,o18.q,hK⟩
   ·rw [hE] at g
    refine jY (b:=true) rfl rfl rfl g (fun KK hK2 => ?_)
    go_simp
    exact hK2 (A.put (some 15) (.pointer (some ⟨w.heap.size,1,none⟩))) _ ⟨hFR.put (by decide) _,o0.q,o1.q,o2.q,o3.q,o4.q,o5.q,o6.q,o7.q,o8.q,.now (by rw [hE];exact put_eq (by have hz:=hsz.o;omega)),o10.q,o11.q,o12.q,o13.q,o14.q,o15.q,o16.q,o17.q,o18.q,hK⟩
  ·have g:=o8 (aB hm 8 (by kernel_rfl))
   have e1:=o9 (aB hm 9 (by kernel_rfl))
   rcases bfe E with hE|hE
   ·rw [hE] at g
    refine mD (b:=true) (c:=false) rfl rfl rfl g (by decide) ?_
    exact ⟨hFR.put (by decide) _,o0.q,o1.q,o2.q,o3.q,o4.q,o5.q,o6.q,o7.q,o8.q,o9.q,.now (by rw [hE];exact put_eq (by have hz:=hsz.o;omega)),o11.q,o12.q,o13.q,o14.q,o15.q,o16.q,o17.q,o18.q,hK⟩
   ·rw [hE] at g e1
    simp only [cond_true] at e1
    have BL:=B1.o.af hK
    have x0:=BL.all
    clear BL
    refine jY (b:=true) rfl rfl rfl g (fun KK hK2 => ?_)
    go_simp
    exact hK2 (A.put (some 16) (iv k)) _ ⟨hFR.put (by decide) _,o0.q,o1.q,o2.q,o3.q,o4.q,o5.q,o6.q,o7.q,o8.q,o9.q,.now (by rw [hE];exact put_eq (by have hz:=hsz.o;omega)),o11.q,o12.q,o13.q,o14.q,o15.q,o16.q,o17.q,o18.q,hK⟩
  ·have g:=o8 (aB hm 8 (by kernel_rfl))
   have e1:=o10 (aB hm 10 (by kernel_rfl))
   rcases bfe E with hE|hE
   ·rw [hE] at g
    refine mD (b:=true) (c:=false) rfl rfl rfl g (by decide) ?_
    exact ⟨hFR.put (by decide) _,o0.q,o1.q,o2.q,o3.q,o4.q,o5.q,o6.q,o7.q,o8.q,o9.q,o10.q,.now (by rw [hE];exact put_eq (by have hz:=hsz.o;omega)),o12.q,o13.q,o14.q,o15.q,o16.q,o17.q,o18.q,hK⟩
   ·rw [hE] at g e1
    simp only [cond_true] at e1
    refine jY (b:=true) rfl rfl rfl g (fun KK hK2 => ?_)
    go_simp
    refine st (Wn k _) ?_
    rw [hBB]
    go_simp
    exact hK2 (A.put (some 17) (.bool B)) _ ⟨hFR.put (by decide) _,o0.q,o1.q,o2.q,o3.q,o4.q,o5.q,o6.q,o7.q,o8.q,o9.q,o10.q,.now (by rw [hE];exact put_eq (by have hz:=hsz.o;omega)),o12.q,o13.q,o14.q,o15.q,o16.q,o17.q,o18.q,hK⟩
  ·have e1:=o8 (aB hm 8 (by kernel_rfl))
   have e2:=o11 (aB hm 11 (by kernel_rfl))
   rcases bfe E with hE|hE
   ·rw [hE] at e1 e2
    simp only [cond_false] at e2
    refine wpOp_step rfl (fun KK hK2 => ?_)
    go_simp
    exact hK2 (A.put (some 18) (.bool false)) _ ⟨hFR.put (by decide) _,o0.q,o1.q,o2.q,o3.q,o4.q,o5.q,o6.q,o7.q,o8.q,o9.q,o10.q,o11.q,.now (by rw [hE];exact put_eq (by have hz:=hsz.o;omega)),o13.q,o14.q,o15.q,o16.q,o17.q,o18.q,hK⟩
   ·rw [hE] at e1 e2
    simp only [cond_true] at e2
    refine wpOp_step rfl (fun KK hK2 => ?_)
    go_simp
    exact hK2 (A.put (some 18) (.bool B)) _ ⟨hFR.put (by decide) _,o0.q,o1.q,o2.q,o3.q,o4.q,o5.q,o6.q,o7.q,o8.q,o9.q,o10.q,o11.q,.now (by rw [hE];exact put_eq (by have hz:=hsz.o;omega)),o13.q,o14.q,o15.q,o16.q,o17.q,o18.q,hK⟩
  ·have e1:=o12 (aB hm 12 (by kernel_rfl))
   refine wpOp_step rfl (fun KK hK2 => ?_)
   go_simp
   exact hK2 (A.put (some 19) (.bool (E&&B))) _ ⟨hFR.put (by decide) _,o0.q,o1.q,o2.q,o3.q,o4.q,o5.q,o6.q,o7.q,o8.q,o9.q,o10.q,o11.q,o12.q,.now (put_eq (by have hz:=hsz.o;omega)),o14.q,o15.q,o16.q,o17.q,o18.q,hK⟩
  ·have g:=o13 (aB hm 13 (by kernel_rfl))
   rcases bfe (E&&B) with hE|hE
   ·rw [hE] at g
    refine mD (b:=true) (c:=false) rfl rfl rfl g (by decide) ?_
    exact ⟨hFR.put (by decide) _,o0.q,o1.q,o2.q,o3.q,o4.q,o5.q,o6.q,o7.q,o8.q,o9.q,o10.q,o11.q,o12.q,o13.q,.now (by rw [hE];exact put_eq (by have hz:=hsz.o;omega)),o15.q,o16.q,o17.q,o18.q,hK⟩
   ·rw [hE] at g
    refine jY (b:=true) rfl rfl rfl g (fun KK hK2 => ?_)
    go_simp
    exact hK2 (A.put (some 20) (.pointer (some ⟨w.heap.size,2,none⟩))) _ ⟨hFR.put (by decide) _,o0.q,o1.q,o2.q,o3.q,o4.q,o5.q,o6.q,o7.q,o8.q,o9.q,o10.q,o11.q,o12.q,o13.q,.now (by rw [hE];exact put_eq (by have hz:=hsz.o;omega)),o15.q,o16.q,o17.q,o18.q,hK⟩
  ·have g:=o13 (aB hm 13 (by kernel_rfl))
   have e1:=o14 (aB hm 14 (by kernel_rfl))
   rcases bfe (E&&B) with hE|hE
   ·rw [hE] at g
    refine mD (b:=true) (c:=false) rfl rfl rfl g (by decide) ?_
    exact ⟨hFR.put (by decide) _,o0.q,o1.q,o2.q,o3.q,o4.q,o5.q,o6.q,o7.q,o8.q,o9.q,o10.q,o11.q,o12.q,o13.q,o14.q,.now (by rw [hE];exact put_eq (by have hz:=hsz.o;omega)),o16.q,o17.q,o18.q,hK⟩
   ·rw [hE] at g e1
    simp only [cond_true] at e1
    have BL:=B1.o.af hK
    have x0:=BL.all
    clear BL
    refine jY (b:=true) rfl rfl rfl g (fun KK hK2 => ?_)
    go_simp
    exact hK2 (A.put (some 21) (iv e)) _ ⟨hFR.put (by decide) _,o0.q,o1.q,o2.q,o3.q,o4.q,o5.q,o6.q,o7.q,o8.q,o9.q,o10.q,o11.q,o12.q,o13.q,o14.q,.now (by rw [hE];exact put_eq (by have hz:=hsz.o;omega)),o16.q,o17.q,o18.q,hK⟩
  ·have g:=o13 (aB hm 13 (by kernel_rfl))
   have e1:=o15 (aB hm 15 (by kernel_rfl))
   rcases bfe (E&&B) with hE|hE
   ·rw [hE] at g
    refine mD (b:=true) (c:=false) rfl rfl rfl g (by decide) ?_
    exact ⟨hFR.put (by decide) _,o0.q,o1.q,o2.q,o3.q,o4.q,o5.q,o6.q,o7.q,o8.q,o9.q,o10.q,o11.q,o12.q,o13.q,o14.q,o15.q,.now (by rw [hE];exact put_eq (by have hz:=hsz.o;omega)),o17.q,o18.q,hK⟩
   ·rw [hE] at g e1
    simp only [cond_true] at e1
    refine jY (b:=true) rfl rfl rfl g (fun KK hK2 => ?_)
    go_simp
    refine st (isWord e _ lo hi) ?_
    rw [hCC]
    go_simp
    exact hK2 (A.put (some 22) (.bool C)) _ ⟨hFR.put (by decide) _,o0.q,o1.q,o2.q,o3.q,o4.q,o5.q,o6.q,o7.q,o8.q,o9.q,o10.q,o11.q,o12.q,o13.q,o14.q,o15.q,.now (by rw [hE];exact put_eq (by have hz:=hsz.o;omega)),o17.q,o18.q,hK⟩
  ·have e1:=o13 (aB hm 13 (by kernel_rfl))
   have e2:=o16 (aB hm 16 (by kernel_rfl))
   rcases bfe (E&&B) with hE|hE
   ·rw [hE] at e1 e2
    simp only [cond_false] at e2
    refine wpOp_step rfl (fun KK hK2 => ?_)
    go_simp
    exact hK2 (A.put (some 23) (.bool false)) _ ⟨hFR.put (by decide) _,o0.q,o1.q,o2.q,o3.q,o4.q,o5.q,o6.q,o7.q,o8.q,o9.q,o10.q,o11.q,o12.q,o13.q,o14.q,o15.q,o16.q,.now (by rw [hE];exact put_eq (by have hz:=hsz.o;omega)),o18.q,hK⟩
   ·rw [hE] at e1 e2
    simp only [cond_true] at e2
    refine wpOp_step rfl (fun KK hK2 => ?_)
    go_simp
    exact hK2 (A.put (some 23) (.bool C)) _ ⟨hFR.put (by decide) _,o0.q,o1.q,o2.q,o3.q,o4.q,o5.q,o6.q,o7.q,o8.q,o9.q,o10.q,o11.q,o12.q,o13.q,o14.q,o15.q,o16.q,.now (by rw [hE];exact put_eq (by have hz:=hsz.o;omega)),o18.q,hK⟩
  ·have e1:=o17 (aB hm 17 (by kernel_rfl))
   refine wpOp_step rfl (fun KK hK2 => ?_)
   go_simp
   exact hK2 (A.put (some 2) (.bool ((E&&B)&&C))) _ ⟨hFR.put (by decide) _,o0.q,o1.q,o2.q,o3.q,o4.q,o5.q,o6.q,o7.q,o8.q,o9.q,o10.q,o11.q,o12.q,o13.q,o14.q,o15.q,o16.q,o17.q,.now (put_eq (by have hz:=hsz.o;omega)),hK⟩
  ·simp at hi1
   omega
theorem modes {m:Int} (h:Pl.dE m=true):m=0∨m=1∨m=2∨m=3∨m=4∨m=5∨m=6∨m=7:=by
 simp [Pl.dE,Pl.within] at h
 omega
theorem Aa (m k e k' e':Int) (w:World):(binOp .eql 107 (.agg #[iv m,iv k',iv e']) (.agg #[iv m,iv k,iv e])).run prog w=.ok (.bool ((k'==k)&&(e'==e))) w:=by
 go_simp
 by_cases h1:k'=k<;>by_cases h2:e'=e<;>simp [h1,h2]
theorem kH (w:World) (m k e:Int) (wfm:(Lit.int .i64 m).wf=true) (wfk:(Lit.int .i64 k).wf=true) (wfe:(Lit.int .i64 e).wf=true) :
  Calls prog 188 #[.agg #[iv m,iv k,iv e]] w fun r w'=>r=.returned (.bool (Pl.iY m k e))∧Kept 0 0 w w':=by
 obtain ⟨lo,hi⟩:=wfB wfe
 cases h:Pl.dE m
 ·have G:Hid (Pl.iY m k e=false):=hide (by unfold Pl.iY;rw [h];rfl)
  have K0:=hide (kept_alloc w (.cells #[iv m,iv k,iv e] 107))
  go_enter func188,ntmps188
  go_wp2_with fail
  refine (Di m k e _ h).mono ?_
  rintro r w1 ⟨rfl,k1⟩
  have K1:=hide (K0.o.trans k1)
  clear k1
  go_wp2_with fail
  go_quiet (fail)
  go_wp2_with fail
  go_ret
  exact ⟨rB (by rw [G.o]),ax K1.o _⟩
 ·rcases modes h with rfl|rfl|rfl|rfl|rfl|rfl|rfl|rfl
  ·have q:=qg 0 k e w 202 283 (.agg #[iv k]) _ _ lo hi (fun w=>AU k e w) (fun w=>VY _ w) (fun w=>IM k e w) fn0 (fun w=>Aa 0 k e k 0 w)
   have G:(((k:Int)==k)&&((0:Int)==e)&&(Pl.within k 0 3&&Pl.aT e))=Pl.iY 0 k e:=by
    unfold Pl.iY
    rw [show Pl.dE 0=true from by decide,show decide ((0:Int)<6)=true from by decide,show Pl.jV 0=false from by decide,Bool.eq_iff_iff]
    simp
    grind
   rw [G] at q
   exact q
  ·have q:=qg 1 k e w 203 284 (.agg #[iv k]) _ _ lo hi (fun w=>AQ k e w) (fun w=>VX _ w) (fun w=>IL k e w) fn1 (fun w=>Aa 1 k e k 0 w)
   have G:(((k:Int)==k)&&((0:Int)==e)&&(Pl.within k 0 3&&Pl.aT e))=Pl.iY 1 k e:=by
    unfold Pl.iY
    rw [show Pl.dE 1=true from by decide,show decide ((1:Int)<6)=true from by decide,show Pl.jV 1=false from by decide,Bool.eq_iff_iff]
    simp
    grind
   rw [G] at q
   exact q
  ·have q:=qg 2 k e w 212 286 (.agg #[iv k]) _ _ lo hi (fun w=>AP k e w) (fun w=>VW _ w) (fun w=>IK k e w) fn2 (fun w=>Aa 2 k e k 0 w)
   have G:(((k:Int)==k)&&((0:Int)==e)&&(Pl.within k 0 3&&Pl.aT e))=Pl.iY 2 k e:=by
    unfold Pl.iY
    rw [show Pl.dE 2=true from by decide,show decide ((2:Int)<6)=true from by decide,show Pl.jV 2=false from by decide,Bool.eq_iff_iff]
    simp
    grind
   rw [G] at q
   exact q
  ·have q:=qg 3 k e w 213 287 (.agg #[iv k]) _ _ lo hi (fun w=>AO k e w) (fun w=>VV _ w) (fun w=>IJ k e w) fn3 (fun w=>Aa 3 k e k 0 w)
   have G:(((k:Int)==k)&&((0:Int)==e)&&(Pl.within k 0 3&&Pl.aT e))=Pl.iY 3 k e:=by
    unfold Pl.iY
    rw [show Pl.dE 3=true from by decide,show decide ((3:Int)<6)=true from by decide,show Pl.jV 3=false from by decide,Bool.eq_iff_iff]
    simp
    grind
   rw [G] at q
   exact q
  ·have q:=qg 4 k e w 214 288 (.agg #[iv k]) _ _ lo hi (fun w=>AL k e w) (fun w=>VU _ w) (fun w=>II k e w) fn4 (fun w=>Aa 4 k e k 0 w)
   have G:(((k:Int)==k)&&((0:Int)==e)&&(Pl.within k 0 3&&Pl.aT e))=Pl.iY 4 k e:=by
    unfold Pl.iY
    rw [show Pl.dE 4=true from by decide,show decide ((4:Int)<6)=true from by decide,show Pl.jV 4=false from by decide,Bool.eq_iff_iff]
    simp
    grind
   rw [G] at q
   exact q
  ·have q:=qg 5 k e w 216 289 (.agg #[iv k,iv e]) _ _ lo hi (fun w=>AC k e w) (fun w=>VT _ w) (fun w=>IG k e w) fn5 (fun w=>Aa 5 k e k e w)
   have G:(((k:Int)==k)&&((e:Int)==e)&&(Pl.within k 0 3&&Pl.aT e))=Pl.iY 5 k e:=by
    unfold Pl.iY
    rw [show Pl.dE 5=true from by decide,show decide ((5:Int)<6)=true from by decide,show Pl.jV 5=true from by decide,Bool.eq_iff_iff]
    simp
    skip
   rw [G] at q
   exact q
  ·have q:=qg 6 k e w 217 290 (.agg #[iv e]) _ _ lo hi (fun w=>AB k e w) (fun w=>VS _ w) (fun w=>IE k e w) fn6 (fun w=>Aa 6 k e 0 e w)
   have G:(((0:Int)==k)&&((e:Int)==e)&&(Pl.within k 0 3&&Pl.aT e))=Pl.iY 6 k e:=by
    unfold Pl.iY
    rw [show Pl.dE 6=true from by decide,show decide ((6:Int)<6)=false from by decide,show Pl.jV 6=true from by decide,Bool.eq_iff_iff]
    simp
    grind
   rw [G] at q
   exact q
  ·have q:=qg 7 k e w 205 285 (.agg #[iv e]) _ _ lo hi (fun w=>AA k e w) (fun w=>VR _ w) (fun w=>IC k e w) fn7 (fun w=>Aa 7 k e 0 e w)
   have G:(((0:Int)==k)&&((e:Int)==e)&&(Pl.within k 0 3&&Pl.aT e))=Pl.iY 7 k e:=by
    unfold Pl.iY
    rw [show Pl.dE 7=true from by decide,show decide ((7:Int)<6)=false from by decide,show Pl.jV 7=true from by decide,Bool.eq_iff_iff]
    simp
    grind
   rw [G] at q
   exact q
theorem yt (w:World) (m:Int) (wfm:(Lit.int .i64 m).wf=true) :
  Calls prog 191 #[iv m] w fun r w'=>r=.returned (.tuple #[.bool (Pl.dE m&&Pl.jV m),.bool (Pl.dE m)])∧Kept 0 0 w w':=by
 cases h:Pl.dE m
 ·go_enter func191,ntmps191
  go_wp2_with (first|(go_at_call 200;refine (Di m 0 0 _ h).mono ?_;rintro r w1 ⟨rfl,k1⟩))
  go_quiet (fail)
  go_wp2_with fail
  go_ret2
  exact ⟨by simp,ax k1 _⟩
 ·rcases modes h with rfl|rfl|rfl|rfl|rfl|rfl|rfl|rfl
  ·go_enter func191,ntmps191
   go_wp2_with (first|(go_at_call 200;refine (AU 0 0 _).mono ?_;rintro r w1 ⟨rfl,k1⟩))
   go_quiet (first|(go_at_call 219;exact Calls.quiet_of_same (O9 _ _))|fail)
   go_wp2_with fail
   go_ret2
   exact ⟨rfl,ax k1 _⟩
  ·go_enter func191,ntmps191
   go_wp2_with (first|(go_at_call 200;refine (AQ 0 0 _).mono ?_;rintro r w1 ⟨rfl,k1⟩))
   go_quiet (first|(go_at_call 219;exact Calls.quiet_of_same (O8 _ _))|fail)
   go_wp2_with fail
   go_ret2
   exact ⟨rfl,ax k1 _⟩
  ·go_enter func191,ntmps191
   go_wp2_with (first|(go_at_call 200;refine (AP 0 0 _).mono ?_;rintro r w1 ⟨rfl,k1⟩))
   go_quiet (first|(go_at_call 219;exact Calls.quiet_of_same (O7 _ _))|fail)
   go_wp2_with fail
   go_ret2
   exact ⟨rfl,ax k1 _⟩
  ·go_enter func191,ntmps191
   go_wp2_with (first|(go_at_call 200;refine (AO 0 0 _).mono ?_;rintro r w1 ⟨rfl,k1⟩))
   go_quiet (first|(go_at_call 219;exact Calls.quiet_of_same (O6 _ _))|fail)
   go_wp2_with fail
   go_ret2
   exact ⟨rfl,ax k1 _⟩
  ·go_enter func191,ntmps191
   go_wp2_with (first|(go_at_call 200;refine (AL 0 0 _).mono ?_;rintro r w1 ⟨rfl,k1⟩))
   go_quiet (first|(go_at_call 219;exact Calls.quiet_of_same (OZ _ _))|fail)
   go_wp2_with fail
   go_ret2
   exact ⟨rfl,ax k1 _⟩
  ·go_enter func191,ntmps191
   go_wp2_with (first|(go_at_call 200;refine (AC 0 0 _).mono ?_;rintro r w1 ⟨rfl,k1⟩))
   go_quiet (first|(go_at_call 219;exact Calls.quiet_of_same (OY _ _))|fail)
   go_wp2_with fail
   go_ret2
   exact ⟨rfl,ax k1 _⟩
  ·go_enter func191,ntmps191
   go_wp2_with (first|(go_at_call 200;refine (AB 0 0 _).mono ?_;rintro r w1 ⟨rfl,k1⟩))
   go_quiet (first|(go_at_call 219;exact Calls.quiet_of_same (OU _ _))|fail)
   go_wp2_with fail
   go_ret2
   exact ⟨rfl,ax k1 _⟩
  ·go_enter func191,ntmps191
   go_wp2_with (first|(go_at_call 200;refine (AA 0 0 _).mono ?_;rintro r w1 ⟨rfl,k1⟩))
   go_quiet (first|(go_at_call 219;exact Calls.quiet_of_same (OT _ _))|fail)
   go_wp2_with fail
   go_ret2
   exact ⟨rfl,ax k1 _⟩
theorem Wp (m:Int) (w:World):Calls prog 238 #[iv m] w fun e w'=>e=.returned (.bool (Pl.kG m))∧w'=w:=by
 by_cases h0:2≤m
 ·by_cases h1:m≤6
  ·go_enter func238,ntmps238
   go_wp2
   go_ret
   exact ⟨rB (by simp [Pl.kG,Pl.within,h0,h1]),rfl⟩
  ·go_enter func238,ntmps238
   go_wp2
   go_ret
   exact ⟨rB (by simp [Pl.kG,Pl.within,h0];omega),rfl⟩
 ·go_enter func238,ntmps238
  go_wp2
  go_ret
  exact ⟨rB (by simp [Pl.kG,Pl.within];omega),rfl⟩
theorem Ei (m:Int) (w:World):Calls prog 215 #[iv m] w fun e w'=>e=.returned (.bool ((m==0)||Pl.kG m))∧w'=w:=by
 cases h0:(m==0)
 ·go_enter func215,ntmps215
  go_wp2_with (go_at_call 238;refine st (Wp _ _) ?_)
  go_ret
  exact ⟨rB (by simp),rfl⟩
 ·go_enter func215,ntmps215
  go_wp2
  go_ret
  exact ⟨rB (by simp),rfl⟩
theorem DV (m:Int) (w:World):Calls prog 216 #[iv m] w fun e w'=>e=.returned (.bool (Pl.fO m))∧w'=w:=by
 unfold Pl.fO
 cases h0:(m==2)<;>cases h1:(m==5)<;>cases h2:(m==6)<;>(
  go_enter func216,ntmps216
  go_wp2
  go_ret
  exact ⟨rB (by simp),rfl⟩)
theorem VL (v:Int):Pl.okv 1 v=Pl.within v 0 255:=by
 unfold Pl.okv Pl.within Pl.top
 rw [Bool.eq_iff_iff];simp;omega
theorem OM (v:Int) (w:World) (lo : -9223372036854775808≤v) (hi:v≤9223372036854775807) :
  Calls prog 129 #[iv v] w fun e w'=>e=.returned (.bool (Pl.within v 0 255))∧w'=w:=by
 go_enter func129,ntmps129
 go_wp2_with (go_at_call 128;refine st (dG _ _ _ lo hi) ?_;rw [VL])
 go_ret
 exact ⟨rfl,rfl⟩
def Pl.lng (m:Int):Bool:=Pl.dE m&&Pl.jV m
theorem yl (w:World) (op z r m k e s:Int) (wfm:(Lit.int .i64 m).wf=true):Calls prog 161 #[.agg (inA op z r m k e s)] w fun r' w'=>r'=.returned (.bool (Pl.lng m))∧Kept 0 0 w w':=by
 have K0:=hide (kept_alloc w (.cells (inA op z r m k e s) 109))
 go_enter func161,ntmps161
 go_wp2_with (go_at_call 191;refine (yt _ m wfm).mono ?_;rintro e' w2 ⟨rfl,k2⟩)
 go_ret
 exact ⟨rfl,K0.o.trans k2⟩
theorem lengthOf (w:World) (op z r m k e s:Int) (wfm:(Lit.int .i64 m).wf=true):Calls prog 120 #[.agg (inA op z r m k e s)] w fun r' w'=>r'=.returned (iv (if Pl.lng m=true then 2 else 1))∧Kept 0 0 w w':=by
 have K0:=hide (kept_alloc w (.cells (inA op z r m k e s) 109))
 cases h:Pl.lng m
 ·go_enter func120,ntmps120
  go_wp2_with (go_at_call 161;refine (yl _ op z r m k e s wfm).mono ?_;rintro e' w2 ⟨rfl,k2⟩;rw [h])
  go_ret
  exact ⟨rfl,K0.o.trans k2⟩
 ·go_enter func120,ntmps120
  go_wp2_with (go_at_call 161;refine (yl _ op z r m k e s wfm).mono ?_;rintro e' w2 ⟨rfl,k2⟩;rw [h])
  go_ret
  exact ⟨rfl,K0.o.trans k2⟩
theorem um (w:World) (op z r m k e s:Int):Calls prog 239 #[.agg (inA op z r m k e s)] w fun r' w'=>r'=.returned (.bool ((r==0)&&Pl.jA m e))∧Kept 0 0 w w':=by
 have K0:=hide (kept_alloc w (.cells (inA op z r m k e s) 109))
 unfold Pl.jA
 cases h0:(r==0)<;>cases h1:(m==7)<;>cases h2:decide (e≤1023)<;>(
  go_enter func239,ntmps239
  go_wp2
  go_ret
  exact ⟨rB (by simp),K0.o⟩)
theorem zY (w:World) (op z r m k e s:Int) (wfe:(Lit.int .i64 e).wf=true):Calls prog 189 #[.agg (inA op z r m k e s)] w fun r' w'=>r'=.returned (.bool (Pl.KN ⟨op,z,r,m,k,e,s⟩))∧Kept 0 0 w w':=by
 have K0:=hide (kept_alloc w (.cells (inA op z r m k e s) 109))
 obtain ⟨lo,hi⟩:=wfB wfe
 unfold Pl.KN
 simp only
 cases h0:(m != 7)<;>cases h1:(z != 1)<;>cases h2:Pl.within e 0 255<;>(
  go_enter func189,ntmps189
  go_wp2_with (go_at_call 129;refine st (OM _ _ lo hi) ?_;rw [h2])
  go_ret
  exact ⟨rB (by simp at h0 h1;simp [h0,h1]),K0.o⟩)
theorem oM (a:Int):∃q:Int,wrap64 a=a+18446744073709551616*q:=by
 refine ⟨-((a+9223372036854775808)/18446744073709551616),?_⟩
 unfold wrap64
 omega
theorem firstWord (w:World) (op z r m k e s:Int):Calls prog 122 #[.agg (inA op z r m k e s)] w fun r' w'=>r'=.returned (iv (Pl.oN ⟨op,z,r,m,k,e,s⟩%65536))∧Kept 0 0 w w':=by
 have K0:=hide (kept_alloc w (.cells (inA op z r m k e s) 109))
 go_enter func122,ntmps122
 go_wp2_with (go_at_call 117;refine (iw _ _).mono ?_;rintro e' w2 ⟨rfl,hw⟩;have hw2:=hw.symm;clear hw;subst hw2)
 go_ret
 refine ⟨rI ?_,K0.o⟩
 unfold Pl.oN
 simp only
 obtain ⟨q1,e1⟩:=oM (op*2048)
 obtain ⟨q2,e2⟩:=oM (z-1)
 obtain ⟨q3,e3⟩:=oM (wrap64 (z-1)*1024)
 obtain ⟨q4,e4⟩:=oM (wrap64 (op*2048)+wrap64 (wrap64 (z-1)*1024))
 obtain ⟨q5,e5⟩:=oM (r*256)
 obtain ⟨q6,e6⟩:=oM (wrap64 (wrap64 (op*2048)+wrap64 (wrap64 (z-1)*1024))+wrap64 (r*256))
 obtain ⟨q7,e7⟩:=oM (m*32)
 obtain ⟨q8,e8⟩:=oM (wrap64 (wrap64 (wrap64 (op*2048)+wrap64 (wrap64 (z-1)*1024))+wrap64 (r*256))+wrap64 (m*32))
 obtain ⟨q9,e9⟩:=oM (k*8)
 obtain ⟨qa,ea⟩:=oM (wrap64 (wrap64 (wrap64 (wrap64 (op*2048)+wrap64 (wrap64 (z-1)*1024))+wrap64 (r*256))+wrap64 (m*32))+wrap64 (k*8))
 obtain ⟨qb,eb⟩:=oM (wrap64 (wrap64 (wrap64 (wrap64 (wrap64 (op*2048)+wrap64 (wrap64 (z-1)*1024))+wrap64 (r*256))+wrap64 (m*32))+wrap64 (k*8))+s)
 omega
theorem ry {n:Int} (h0 : -1≤n) (h1:n≤65536):(Lit.int .i64 n).wf=true:=by
 have e1:IntKind.i64.min = -9223372036854775808:=rfl
 have e2:IntKind.i64.max=9223372036854775807:=rfl
 simp [Lit.wf]
 omega
theorem Blk.c7 {w:World} {b:Nat} {v0 v1 v2 v3 v4 v5 v6:Value} {t:TypeId} (h:Blk w b #[v0,v1,v2,v3,v4,v5,v6] t):w.cell? ⟨b,0,none⟩=some v0∧w.cell? ⟨b,1,none⟩=some v1∧w.cell? ⟨b,2,none⟩=some v2∧w.cell? ⟨b,3,none⟩=some v3∧w.cell? ⟨b,4,none⟩=some v4∧w.cell? ⟨b,5,none⟩=some v5∧w.cell? ⟨b,6,none⟩=some v6:=
 ⟨h.cell (i:=0) rfl,h.cell (i:=1) rfl,h.cell (i:=2) rfl,h.cell (i:=3) rfl,h.cell (i:=4) rfl,h.cell (i:=5) rfl,h.cell (i:=6) rfl⟩
theorem insOf (w:World) (n v:Int) (h0:0≤n) (h1:n≤65535):Calls prog 159 #[iv n,iv v] w fun r' w'=>r'=.returned (.agg #[iv (Pl.decode n v).op,iv (Pl.decode n v).z,iv (Pl.decode n v).r,iv (Pl.decode n v).m,iv (Pl.decode n v).k,iv (Pl.decode n v).e,iv (Pl.decode n v).s])∧Kept 0 0 w w':=by
 rw [Pl.vZ]
 simp only [Pl.decode]
 have t1:n.tdiv 2048=n/2048:=Int.tdiv_eq_ediv_of_nonneg h0
 have t2:n.tdiv 1024=n/1024:=Int.tdiv_eq_ediv_of_nonneg h0
 have t3:n.tdiv 256=n/256:=Int.tdiv_eq_ediv_of_nonneg h0
 have t4:n.tdiv 32=n/32:=Int.tdiv_eq_ediv_of_nonneg h0
 have t5:n.tdiv 8=n/8:=Int.tdiv_eq_ediv_of_nonneg h0
 have t6:n.tmod 8=n%8:=Int.tmod_eq_emod_of_nonneg h0
 have wfm:(Lit.int .i64 (n/32%8)).wf=true:=ry (by omega) (by omega)
 have hM:Pl.lng (n/32%8)=Pl.jV (n/32%8):=by
  unfold Pl.lng
  rw [show Pl.dE (n/32%8)=true from by simp [Pl.dE,Pl.within];omega]
  rfl
 have HM:=hide hM
 have KA:=hide (ah (kept_alloc w (.cells (inA 0 0 0 0 0 0 0) 109)) (.cells (inA (n/2048) (n/1024%2+1) (n/256%4) (n/32%8) (n/8%4) 0 (n%8)) 109))
 have B1:=hide ((Blk.new w (inA 0 0 0 0 0 0 0) 109).alloc (.cells (inA (n/2048) (n/1024%2+1) (n/256%4) (n/32%8) (n/8%4) 0 (n%8)) 109))
 have b2:=Blk.new (w.alloc (.cells (inA 0 0 0 0 0 0 0) 109)) (inA (n/2048) (n/1024%2+1) (n/256%4) (n/32%8) (n/8%4) 0 (n%8)) 109
 simp only [World.size_alloc] at b2
 have B2:=hide b2
 clear b2 hM
 cases hx:Pl.jV (n/32%8)
 ·go_enter func159,ntmps159
  go_wp2_with fail
  refine (yl _ _ _ _ _ _ _ _ wfm).mono ?_
  rintro r2 w2 ⟨rfl,k2⟩
  rw [HM.o,hx]
  have K2:=hide (KA.o.trans k2)
  have C2:=hide (B2.o.af k2)
  have C1:=hide (B1.o.af k2)
  obtain ⟨p0,p1,p2,p3,p4,p5,p6⟩:=C2.o.c7
  obtain ⟨q0,q1,q2,q3,q4,q5,q6⟩:=C1.o.c7
  have fq0:=C1.o.frozen 0;have fq1:=C1.o.frozen 1;have fq2:=C1.o.frozen 2;have fq3:=C1.o.frozen 3;have fq4:=C1.o.frozen 4;have fq5:=C1.o.frozen 5;have fq6:=C1.o.frozen 6
  have fp5:=C2.o.frozen 5
  clear k2 t1 t2 t3 t4 t5 t6
  go_wp2_with fail
  refine bodyPost_ret (v:=.agg (inA (n/2048) (n/1024%2+1) (n/256%4) (n/32%8) (n/8%4) 0 (n%8))) ?_ rfl ⟨rfl,?_⟩
  ·rw [aj rfl];go_simp
  ·exact (ag (ag (ag (ag (ag (ag (ag K2.o _ _ _ (.inr (by omega))) _ _ _ (.inr (by omega))) _ _ _ (.inr (by omega))) _ _ _ (.inr (by omega))) _ _ _ (.inr (by omega))) _ _ _ (.inr (by omega))) _ _ _ (.inr (by omega)))
 ·go_enter func159,ntmps159
  go_wp2_with fail
  refine (yl _ _ _ _ _ _ _ _ wfm).mono ?_
  rintro r2 w2 ⟨rfl,k2⟩
  rw [HM.o,hx]
  have K2:=hide (KA.o.trans k2)
  have C2:=hide (B2.o.af k2)
  have C1:=hide (B1.o.af k2)
  obtain ⟨p0,p1,p2,p3,p4,p5,p6⟩:=C2.o.c7
  obtain ⟨q0,q1,q2,q3,q4,q5,q6⟩:=C1.o.c7
  have fq0:=C1.o.frozen 0;have fq1:=C1.o.frozen 1;have fq2:=C1.o.frozen 2;have fq3:=C1.o.frozen 3;have fq4:=C1.o.frozen 4;have fq5:=C1.o.frozen 5;have fq6:=C1.o.frozen 6
  have fp5:=C2.o.frozen 5
  clear k2 t1 t2 t3 t4 t5 t6
  go_wp2_with fail
  refine bodyPost_ret (v:=.agg (inA (n/2048) (n/1024%2+1) (n/256%4) (n/32%8) (n/8%4) v (n%8))) ?_ rfl ⟨rfl,?_⟩
  ·rw [aj rfl];go_simp
  ·exact (ag (ag (ag (ag (ag (ag (ag (ag K2.o _ _ _ (.inr (by omega))) _ _ _ (.inr (by omega))) _ _ _ (.inr (by omega))) _ _ _ (.inr (by omega))) _ _ _ (.inr (by omega))) _ _ _ (.inr (by omega))) _ _ _ (.inr (by omega))) _ _ _ (.inr (by omega)))
theorem Yw (a b:Pl.In) (w:World):(binOp .eql 109 (.agg #[iv a.op,iv a.z,iv a.r,iv a.m,iv a.k,iv a.e,iv a.s]) (.agg #[iv b.op,iv b.z,iv b.r,iv b.m,iv b.k,iv b.e,iv b.s])).run prog w=.ok (.bool (Pl.vC a b)) w:=by
 obtain ⟨a1,a2,a3,a4,a5,a6,a7⟩:=a
 obtain ⟨b1,b2,b3,b4,b5,b6,b7⟩:=b
 unfold Pl.vC
 go_simp
 by_cases h1:a1=b1
 ·by_cases h2:a2=b2
  ·by_cases h3:a3=b3
   ·by_cases h4:a4=b4
    ·by_cases h5:a5=b5
     ·by_cases h6:a6=b6
      ·by_cases h7:a7=b7
       ·simp [h1,h2,h3,h4,h5,h6,h7]
       ·simp [h1,h2,h3,h4,h5,h6,h7]
      ·simp [h1,h2,h3,h4,h5,h6]
     ·simp [h1,h2,h3,h4,h5]
    ·simp [h1,h2,h3,h4]
   ·simp [h1,h2,h3]
  ·simp [h1,h2]
 ·simp [h1]
theorem eqO (m k e:Int) (w:World):(binOp .eql 107 (.agg #[iv m,iv k,iv e]) (.agg #[iv 0,iv 0,iv 0])).run prog w=.ok (.bool (Pl.iF m k e)) w:=by
 unfold Pl.iF
 go_simp
 by_cases h1:m=0<;>by_cases h2:k=0<;>by_cases h3:e=0<;>simp [h1,h2,h3]
theorem qG (w:World) (op z r m k e s:Int):Calls prog 187 #[.agg #[iv op,iv z,iv r,iv m,iv k,iv e,iv s]] w fun r' w'=>r'=.returned (.bool (Pl.fits ⟨op,z,r,m,k,e,s⟩))∧Kept 0 0 w w':=by
 have K0:=hide (kept_alloc w (.cells #[iv op,iv z,iv r,iv m,iv k,iv e,iv s] 109))
 have B0:=hide (Blk.new w #[iv op,iv z,iv r,iv m,iv k,iv e,iv s] 109)
 obtain ⟨N,hN⟩:∃N,Pl.oN ⟨op,z,r,m,k,e,s⟩%65536=N:=⟨_,rfl⟩
 have n0:Hid (0≤N):=hide (by omega)
 have n1:Hid (N≤65535):=hide (by omega)
 obtain ⟨D,hD⟩:∃D,Pl.decode N e=D:=⟨_,rfl⟩
 obtain ⟨F,hF⟩:∃F,Pl.vC D ⟨op,z,r,m,k,e,s⟩=F:=⟨_,rfl⟩
 have EF:Hid (Pl.fits ⟨op,z,r,m,k,e,s⟩=F):=hide (by unfold Pl.fits;rw [hN,hD,hF])
 have HN:=hide hN
 have HD:=hide hD
 obtain ⟨RD,hR⟩:∃RD:Array Value,RD=#[iv D.op,iv D.z,iv D.r,iv D.m,iv D.k,iv D.e,iv D.s]:=⟨_,rfl⟩
 have HE:Hid (∀w:World,(binOp .eql 109 (.agg RD) (.agg #[iv op,iv z,iv r,iv m,iv k,iv e,iv s])).run prog w=.ok (.bool F) w):=hide (fun w=>by rw [←hF,hR];exact Yw D ⟨op,z,r,m,k,e,s⟩ w)
 have HR:=hide hR
 clear hN hD hF hR
 rw [EF.o]
 go_enter func187,ntmps187
 go_wp2_with fail
 refine iI (fun A0 l A W=>FR [3,4,5,6,7,8,9,10,2] A0 A∧Once l 0 (A.tmps[3]? = some (.agg #[iv op,iv z,iv r,iv m,iv k,iv e,iv s]))∧Once l 1 (A.tmps[4]? = some (iv N))∧Once l 2 (A.tmps[5]? = some (.pointer (some ⟨w.heap.size,3,none⟩)))∧Once l 3 (A.tmps[6]? = some (.pointer (some ⟨w.heap.size,5,none⟩)))∧Once l 4 (A.tmps[7]? = some (iv e))∧Once l 5 (A.tmps[8]? = some (.agg RD))∧Once l 6 (A.tmps[9]? = some (.agg #[iv op,iv z,iv r,iv m,iv k,iv e,iv s]))∧Once l 7 (A.tmps[10]? = some (.bool F))∧Once l 8 (A.tmps[2]? = some (.bool F))∧Kept 0 0 (w.alloc (.cells #[iv op,iv z,iv r,iv m,iv k,iv e,iv s] 109)) W) (by kernel_rfl) (by kernel_rfl) ?start ?fin ?step
 case start=>exact ⟨FR.refl _ _,aA (by decide),aA (by decide),aA (by decide),aA (by decide),aA (by decide),aA (by decide),aA (by decide),aA (by decide),aA (by decide),ae (Kept.refl _ _ _)⟩
 case fin=>
  intro l A W h hl
  obtain ⟨hFR,o0,o1,o2,o3,o4,o5,o6,o7,o8,hK⟩:=h
  have g8:=o8 (hl 8 (by decide))
  have QQ:=hide hK
  have hc9:=hFR.chain
  simp only [List.foldl] at hc9
  rw [nV g8] at hc9
  clear hl hK hFR g8 o0 o1 o2 o3 o4 o5 o6 o7 o8
  generalize A.tmps.getD 3 undef=s3 at hc9
  generalize A.tmps.getD 4 undef=s4 at hc9
  generalize A.tmps.getD 5 undef=s5 at hc9
  generalize A.tmps.getD 6 undef=s6 at hc9
  generalize A.tmps.getD 7 undef=s7 at hc9
  generalize A.tmps.getD 8 undef=s8 at hc9
  generalize A.tmps.getD 9 undef=s9 at hc9
  generalize A.tmps.getD 10 undef=s10 at hc9
  subst hc9
  go_simp
  go_wp2_with fail
  go_ret
  exact ⟨rfl,K0.o.trans QQ.o⟩
 case step=>
  intro l A W i hI hm
  obtain ⟨hFR,o0,o1,o2,o3,o4,o5,o6,o7,o8,hK⟩:=hI
  obtain ⟨hi1,hi2⟩:=jP hm
  have hsz:Hid (10<A.tmps.size):=hide (by rw [hFR.size];simp)
  have m1:A.tmps[1]? = some (.pointer (some ⟨w.heap.size,0,none⟩)):=(hFR.o 1 (by decide)).trans rfl
  rcases i with _|_|_|_|_|_|_|_|_|i
  ·have BL:=hide (B0.o.af hK)
   obtain ⟨x0,x1,x2,x3,x4,x5,x6⟩:=BL.o.c7
   refine wpOp_step rfl (fun KK hK2 => ?_)
   go_simp
   exact hK2 (A.put (some 3) (.agg #[iv op,iv z,iv r,iv m,iv k,iv e,iv s])) _ ⟨hFR.put (by decide) _,.now (put_eq (by have hz:=hsz.o;omega)),o1.q,o2.q,o3.q,o4.q,o5.q,o6.q,o7.q,o8.q,hK⟩
  ·have e0:=o0 (aB hm 0 (by kernel_rfl))
   refine wpOp_step rfl (fun KK hK2 => ?_)
   go_simp
   refine (firstWord W op z r m k e s).mono ?_
   rw [HN.o]
   rintro r9 y ⟨rfl,kd⟩
   go_simp
   exact hK2 (A.put (some 4) (iv N)) _ ⟨hFR.put (by decide) _,o0.q,.now (put_eq (by have hz:=hsz.o;omega)),o2.q,o3.q,o4.q,o5.q,o6.q,o7.q,o8.q,(hK.trans kd)⟩
  ·refine wpOp_step rfl (fun KK hK2 => ?_)
   go_simp
   exact hK2 (A.put (some 5) (.pointer (some ⟨w.heap.size,3,none⟩))) _ ⟨hFR.put (by decide) _,o0.q,o1.q,.now (put_eq (by have hz:=hsz.o;omega)),o3.q,o4.q,o5.q,o6.q,o7.q,o8.q,hK⟩
  ·have e2:=o2 (aB hm 2 (by kernel_rfl))
   refine wpOp_step rfl (fun KK hK2 => ?_)
   go_simp
   exact hK2 (A.put (some 6) (.pointer (some ⟨w.heap.size,5,none⟩))) _ ⟨hFR.put (by decide) _,o0.q,o1.q,o2.q,.now (put_eq (by have hz:=hsz.o;omega)),o4.q,o5.q,o6.q,o7.q,o8.q,hK⟩
  ·have e3:=o3 (aB hm 3 (by kernel_rfl))
   have BL:=hide (B0.o.af hK)
   obtain ⟨x0,x1,x2,x3,x4,x5,x6⟩:=BL.o.c7
   refine wpOp_step rfl (fun KK hK2 => ?_)
   go_simp
   exact hK2 (A.put (some 7) (iv e)) _ ⟨hFR.put (by decide) _,o0.q,o1.q,o2.q,o3.q,.now (put_eq (by have hz:=hsz.o;omega)),o5.q,o6.q,o7.q,o8.q,hK⟩
  ·have e1:=o1 (aB hm 1 (by kernel_rfl))
   have e4:=o4 (aB hm 4 (by kernel_rfl))
   refine wpOp_step rfl (fun KK hK2 => ?_)
   go_simp
   refine (insOf W N e n0.o n1.o).mono ?_
   rw [HD.o,←HR.o]
   rintro r9 y ⟨rfl,kd⟩
   go_simp
   exact hK2 (A.put (some 8) (.agg RD)) _ ⟨hFR.put (by decide) _,o0.q,o1.q,o2.q,o3.q,o4.q,.now (put_eq (by have hz:=hsz.o;omega)),o6.q,o7.q,o8.q,(hK.trans kd)⟩
  ·have BL:=hide (B0.o.af hK)
   obtain ⟨x0,x1,x2,x3,x4,x5,x6⟩:=BL.o.c7
   refine wpOp_step rfl (fun KK hK2 => ?_)
   go_simp
   exact hK2 (A.put (some 9) (.agg #[iv op,iv z,iv r,iv m,iv k,iv e,iv s])) _ ⟨hFR.put (by decide) _,o0.q,o1.q,o2.q,o3.q,o4.q,o5.q,.now (put_eq (by have hz:=hsz.o;omega)),o7.q,o8.q,hK⟩
  ·have e5:=o5 (aB hm 5 (by kernel_rfl))
   have e6:=o6 (aB hm 6 (by kernel_rfl))
   have hc:=HE.o
   refine wpOp_step rfl (fun KK hK2 => ?_)
   go_simp
   exact hK2 (A.put (some 10) (.bool F)) _ ⟨hFR.put (by decide) _,o0.q,o1.q,o2.q,o3.q,o4.q,o5.q,o6.q,.now (put_eq (by have hz:=hsz.o;omega)),o8.q,hK⟩
  ·have e7:=o7 (aB hm 7 (by kernel_rfl))
   refine wpOp_step rfl (fun KK hK2 => ?_)
   go_simp
   exact hK2 (A.put (some 2) (.bool F)) _ ⟨hFR.put (by decide) _,o0.q,o1.q,o2.q,o3.q,o4.q,o5.q,o6.q,o7.q,.now (put_eq (by have hz:=hsz.o;omega)),hK⟩
  ·simp at hi1
   omega
theorem Ci (w:World) (op z r m k e s:Int):Calls prog 218 #[.agg #[iv op,iv z,iv r,iv m,iv k,iv e,iv s]] w fun r' w'=>r'=.returned (.bool (((s==0)&&((r==0)&&Pl.jA m e))||((s==1)&&Pl.iF m k e)))∧Kept 0 0 w w':=by
 have K0:=hide (kept_alloc w (.cells #[iv op,iv z,iv r,iv m,iv k,iv e,iv s] 109))
 have hq:=eqO m k e
 by_cases h0:s=0
 ·subst h0
  go_enter func218,ntmps218
  go_wp2_with (go_at_call 239;refine (um _ op z r m k e 0).mono ?_;rintro e9 w2 ⟨rfl,k2⟩)
  go_ret
  exact ⟨rB (by simp),K0.o.trans k2⟩
 ·by_cases h1:s=1
  ·subst h1
   go_enter func218,ntmps218
   go_wp2_with fail
   go_ret
   exact ⟨rB (by simp),K0.o⟩
  ·go_enter func218,ntmps218
   go_wp2_with fail
   go_ret
   exact ⟨rB (by simp [h0,h1]),K0.o⟩
theorem KL (w : World) (op z r m k e s : Int) (h0 : 0 ≤ s) : Calls prog 217 #[.agg #[iv op, iv z, iv r, iv m, iv k, iv e, iv s]] w fun r' w' => r' = .returned (.bool (bif s == 3 then (r == 0) && Pl.jA m e else (decide (s ≤ 6) && Pl.iF m k e) && (decide (3 < s) || (r == 0)))) ∧ Kept 0 0 w w' := by
  have K0 := hide (kept_alloc w (.cells #[iv op, iv z, iv r, iv m, iv k, iv e, iv s] 109))
  have hq := eqO m k e
  by_cases h7 : 7 ≤ s
  · go_enter func217, ntmps217
    go_wp2_with fail
    go_ret
    exact ⟨rB (by have a1 : (s == 3) = false := by simp; omega
                  have a2 : decide (s ≤ 6) = false := by simp; omega
                  rw [a1, a2]; rfl), K0.o⟩
  · have hs : s = 0 ∨ s = 1 ∨ s = 2 ∨ s = 3 ∨ s = 4 ∨ s = 5 ∨ s = 6 := by omega
    rcases hs with rfl | rfl | rfl | rfl | rfl | rfl | rfl
    · cases hr : (r == 0) <;> (
        go_enter func217, ntmps217
        go_wp2_with fail
        go_ret
        exact ⟨rB (by simp), K0.o⟩)
    · cases hr : (r == 0) <;> (
        go_enter func217, ntmps217
        go_wp2_with fail
        go_ret
        exact ⟨rB (by simp), K0.o⟩)
    · cases hr : (r == 0) <;> (
        go_enter func217, ntmps217
        go_wp2_with fail
        go_ret
        exact ⟨rB (by simp), K0.o⟩)
    · go_enter func217, ntmps217
      go_wp2_with (go_at_call 239; refine (um _ op z r m k e 3).mono ?_; rintro e9 w2 ⟨rfl, k2⟩)
      go_ret
      exact ⟨rB (by simp), K0.o.trans k2⟩
    · go_enter func217, ntmps217
      go_wp2_with fail
      go_ret
      exact ⟨rB (by simp), K0.o⟩
    · go_enter func217, ntmps217
      go_wp2_with fail
      go_ret
      exact ⟨rB (by simp), K0.o⟩
    · go_enter func217, ntmps217
      go_wp2_with fail
      go_ret
      exact ⟨rB (by simp), K0.o⟩
end Go.Proofs.YtkkmnnhaailkcaaGreatDoor
