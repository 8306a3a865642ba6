/- Part 31 of what the last text leans on. -/
import Derived.Test.YtkkmnnhaailkcaaGreatDoorJA2
import Derived.Test.YtkkmnnhaailkcaaGreatDoorJA30
import Derived.Test.YtkkmnnhaailkcaaGreatDoorJA22
import Derived.Test.YtkkmnnhaailkcaaGreatDoorJA5
import Derived.Test.YtkkmnnhaailkcaaGreatDoorJA1
import Derived.Test.YtkkmnnhaailkcaaGreatDoorJA16
import Derived.Test.YtkkmnnhaailkcaaGreatDoorJA21
import Derived.Deep.QuietTactic
import Derived.Deep.RegionHeld3
import Derived.BigQuiet
import Derived.Test.YtkkmnnhaailkcaaGreatDoorJA27
set_option maxRecDepth 100000
set_option maxHeartbeats 16000000
namespace Go.Proofs.YtkkmnnhaailkcaaGreatDoor.Pl
set_option linter.unusedVariables false
def pop:Nat→Int→Int
 | 0,_=>0
 | n+1,v=>v%2+pop n (v/2)
end Go.Proofs.YtkkmnnhaailkcaaGreatDoor.Pl
namespace Go.Proofs.YtkkmnnhaailkcaaGreatDoor
open Go.RowKit Go.Proofs.Tryz
set_option linter.unusedVariables false
def Pl.FX (k s f v:Int):Nat→Int
 | 0=>Pl.wI k f
 | m+1=>Pl.fell k s (Pl.st k s (v,f/16) m).1
def Pl.Jq (k s f v:Int):Nat→Bool
 | 0=>false
 | m+1=>Pl.vfl k s (Pl.st k s (v,f/16) m).2 (Pl.st k s (v,f/16) m).1
theorem Pl.FK (k s f v:Int) (m:Nat):k=0∨Pl.Jq k s f v m=false:=by
 cases m with
 | zero=>exact .inr rfl
 | succ m=>
  by_cases h:k=0
  ·exact .inl h
  ·exact .inr (by simp [Pl.Jq,Pl.vfl,h])
theorem Pl.O9 {k s f v:Int} (h:Pl.Fit s (v,f/16)) (m:Nat):0≤Pl.FX k s f v m∧Pl.FX k s f v m≤1:=by
 cases m with
 | zero=>
  obtain ⟨_,_,_,x0,x1⟩:=h
  simp only at x0 x1
  unfold Pl.FX Pl.wI
  split<;>omega
 | succ m=>exact Pl.nS _ _ _
theorem Pl.PZ {k s f v:Int} (h:Pl.Fit s (v,f/16)) (m:Nat):Pl.FX k s f v m+Pl.fl (Pl.ov k s (v,f/16) m) 2+Pl.zn s (Pl.st k s (v,f/16) m).1+16*(Pl.st k s (v,f/16) m).2=Pl.byF k s (v,f/16) m:=by
 cases m with
 | zero=>
  obtain ⟨_,_,_,x0,x1⟩:=h
  simp only at x0 x1
  have hx:f/16=0∨f/16=1:=by omega
  unfold Pl.FX Pl.wI Pl.byF Pl.ov Pl.st
  simp only
  by_cases h6:6≤k
  ·rcases hx with hx|hx<;>simp [hx,h6,Pl.fl]
  ·simp [h6,Pl.fl]
 | succ m=>rfl
theorem xA (k s f v n:Int) (w:World) (h:Pl.pX k s f v=true) (n0:0≤n) (n1:n≤63) :
  Calls prog 202 #[iv k,iv s,iv f,iv v,iv n] w fun e w'=>e=.returned (.tuple #[iv (Pl.st k s (v,f/16) n.toNat).1,iv (Pl.byF k s (v,f/16) n.toNat),.bool true])∧Below w.heap.size w w':=by
 have HG:=hide h
 obtain ⟨k0,k1,_,f0,f1,hf⟩:=Pl.pW h
 have HF:=hide hf
 have d0:decide (n<0)=false:=by simp;omega
 have d1:decide (63<n)=false:=by simp;omega
 clear h hf
 go_enter func202,ntmps202
 go_wp2_with fail
 refine (rowOf k s f v _ HG.o).mono ?_
 rintro e w1 ⟨rfl,hb⟩
 have HB:=hide hb
 clear hb
 go_wp2_with fail
 go_loopw [15,35] (fun T I wr=>∃m:Nat,(m:Int)≤n∧T=.bool (Pl.ov k s (v,f/16) m)∧I=iv m∧Box wr w1.heap.size (Pl.st k s (v,f/16) m).1 (8*s) (Pl.st k s (v,f/16) m).2 (Pl.FX k s f v m) (Pl.Jq k s f v m)∧Below w.heap.size w wr) (fun _ I _=>n.toNat-(intOf I).toNat)
 case atStart=>exact ⟨0,n0,rfl,rfl,Box.XQ _ _ _ _ _ _,HB.o.alloc HB.o.size _⟩
 case round=>
  obtain ⟨m,hm,rfl,rfl,hB,hW⟩:=hrel
  have HBm:=hide hB
  have HW:=hide hW
  have hst:=hide (Pl.oU (k:=k) HF.o m)
  obtain ⟨c0,c1,c2,c3,c4,g0,g1,g2,g3,g4⟩:=hB.cells
  clear hB hW
  by_cases hlt:(m:Int)<n
  ·clear g0 g1 g2 g3 g4
   cases ho:Pl.ov k s (v,f/16) m
   all_goals
    go_wp2_with fail
    refine (moved k s _ _ _ _ _ _ k0 k1 hst.o rfl (Pl.FK k s f v m)).mono ?_
    rintro e wt ⟨rfl,hb2⟩
    have Bt:=hide (HBm.o.later hb2)
    have HX:Hid (Below w.heap.size w wt):=hide (HW.o.trans (hb2.mono HW.o.size))
    clear hb2 c0 c1 c2 c3 c4
    obtain ⟨c0,c1,c2,c3,c4,g0,g1,g2,g3,g4⟩:=Bt.o.cells
    go_wp2_with fail
    go_roundw
    case rel=>exact ⟨m+1,by omega,by simp [Pl.ov,ho],by go_num,Bt.o.set,Below.oD HX.o HB.o.size _ _ _ _ _⟩
    case measure=>simp [intOf];omega
  ·obtain rfl:n=(m:Int):=by omega
   have hfa:=Pl.O9 (k:=k) HF.o m
   have HE:=hide (Pl.PZ (k:=k) HF.o m)
   have d2:decide ((m:Int)<(m:Int))=false:=by simp
   go_wp2_with fail
   obtain ⟨X,hX⟩:∃X:World,X=wr.setCell ⟨w1.heap.size,4,none⟩ (.bool (Pl.ov k s (v,f/16) m)):=⟨_,rfl⟩
   rw [←hX]
   have B2:=hide (HBm.o.XH (t':=Pl.ov k s (v,f/16) m))
   rw [←hX] at B2
   have HY:Hid (Below w.heap.size w X):=hide (by rw [hX];exact HW.o.setCell HB.o.size _)
   clear hX c0 c1 c2 c3 c4 g0 g1 g2 g3 g4
   obtain ⟨c0,c1,c2,c3,c4,_,_,_,_,_⟩:=B2.o.cells
   go_region_with (go_at_call 230;refine (Tc s _ _ _ _ _ _ hst.o rfl hfa.1 hfa.2).mono ?_;rintro e wx ⟨rfl,o1,o2,rfl⟩;obtain ⟨z0,z1,z2,z3,z4,_,_,_,_,_⟩:=(B2.o.two o1 o2).cells)
   all_goals
    go_wp2_with fail
    go_ret3
    exact ⟨lU rfl HE.o rfl,((HY.o.alloc HY.o.size _).alloc (by simpa using Nat.le_succ_of_le HY.o.size) _).drew⟩
theorem Nu (k s f v n:Int) (w:World) (hv:W64 v) :
  Calls prog 202 #[iv k,iv s,iv f,iv v,iv n] w fun e w'=>e=.returned (.tuple #[iv (Pl.jc k s f v n),iv (Pl.oH k s f v n),.bool (Pl.qI k s f v n)])∧Below w.heap.size w w':=by
 cases h:Pl.pX k s f v
 ·have K:Hid (Pl.qI k s f v n=false∧Pl.jc k s f v n=0∧Pl.oH k s f v n=0):=hide (by simp [Pl.jc,Pl.oH,Pl.qI,h])
  go_enter func202,ntmps202
  go_wp2_with fail
  refine (Ey k s f v _ hv.1 hv.2 h).mono ?_
  rintro e w1 ⟨rfl,hb⟩
  go_wp2_with fail
  go_ret3
  exact ⟨lU K.o.2.1.symm K.o.2.2.symm K.o.1.symm,hb.alloc hb.size _⟩
 ·by_cases hn:0≤n∧n≤63
  ·have hk:Pl.qI k s f v n=true:=Pl.PY h hn.1 hn.2
   refine (xA k s f v n w h hn.1 hn.2).mono ?_
   rintro e w' ⟨rfl,hb⟩
   exact ⟨lU (by simp [Pl.jc,hk]) (by simp [Pl.oH,hk]) hk.symm,hb⟩
  ·have K:Hid (Pl.qI k s f v n=false∧Pl.jc k s f v n=0∧Pl.oH k s f v n=0):=by
    have:Pl.cnt n=false:=by simp [Pl.cnt];omega
    exact hide (by simp [Pl.jc,Pl.oH,Pl.qI,this])
   obtain d0|⟨d0,d1⟩:decide (n<0)=true∨(decide (n<0)=false∧decide (63<n)=true):=by simp;omega
   all_goals
    clear hn
    go_enter func202,ntmps202
    go_wp2_with fail
    refine (rowOf k s f v _ h).mono ?_
    rintro e w1 ⟨rfl,hb⟩
    go_wp2_with fail
    go_ret3
    exact ⟨lU K.o.2.1.symm K.o.2.2.symm K.o.1.symm,hb.alloc hb.size _⟩
namespace Pl
def both (k:Int):Bool:=k-k%2==12||k-k%2==14
def said (b:Bool) (s:Int):Bool:=s==0||(b&&s==10)
theorem H6:∀k:Nat,k<16→∀f:Nat,f<32→(said (both (k:Int)) (bits .and .i64 (f:Int) (need (k:Int)))==((k:Int)==bits .andNot .i64 (k:Int) 1))=tst k f:=by decide +kernel
theorem Pe:∀k:Nat,k<16→(bits .andNot .i64 (k:Int) 1=0∧need k=0∧both k=false)∨(bits .andNot .i64 (k:Int) 1=2∧need k=5∧both k=false)∨(bits .andNot .i64 (k:Int) 1=4∧need k=1∧both k=false)∨(bits .andNot .i64 (k:Int) 1=6∧need k=4∧both k=false)∨(bits .andNot .i64 (k:Int) 1=8∧need k=2∧both k=false)∨(bits .andNot .i64 (k:Int) 1=10∧need k=8∧both k=false)∨(bits .andNot .i64 (k:Int) 1=12∧need k=10∧both k=true)∨(bits .andNot .i64 (k:Int) 1=14∧need k=14∧both k=true):=by decide +kernel
end Pl
theorem yS (a:Addr) (fn:Fn) (m:Mode) (w:World):(store a (.func fn #[] #[]) m).run prog w=stored prog w a (.func fn #[] #[]) m:=run_store prog w a _ m rfl
theorem BQ (c:Int) (w:World):Calls prog 232 #[iv c] w fun e w'=>e=.returned (iv (bits .andNot .i64 c 1))∧w'=w:=by
 go_enter func232,ntmps232
 go_wp2
 go_ret
 exact ⟨rfl,rfl⟩
theorem isNone (s:Int) (w:World):Calls prog 256 #[iv s] w fun e w'=>e=.returned (.bool (Pl.said false s))∧w'=w:=by
 go_enter func256,ntmps256
 go_wp2
 go_ret
 exact ⟨rB (by unfold Pl.said;simp),rfl⟩
theorem Qb (s:Int) (w:World):Calls prog 257 #[iv s] w fun e w'=>e=.returned (.bool (Pl.said true s))∧w'=w:=by
 by_cases h:s=0
 ·go_enter func257,ntmps257
  go_wp2
  go_ret
  exact ⟨rB (by unfold Pl.said;simp [h]),rfl⟩
 ·go_enter func257,ntmps257
  go_wp2
  go_ret
  exact ⟨rB (by unfold Pl.said;simp),rfl⟩
def qV (k:Int):Value:=.agg #[iv (Pl.need k),.func (.func (bif Pl.both k then 257 else 256)) #[] #[]]
theorem uY (k:Nat) (hk:k<16) (w:World):Calls prog 231 #[iv (k:Int)] w fun e w'=>e=.returned (qV k)∧Kept 0 0 w w':=by
 have hst:=yS
 rcases Pl.Pe k hk with ⟨hE,hn,hb⟩|⟨hE,hn,hb⟩|⟨hE,hn,hb⟩|⟨hE,hn,hb⟩|⟨hE,hn,hb⟩|⟨hE,hn,hb⟩|⟨hE,hn,hb⟩|⟨hE,hn,hb⟩
 all_goals
  unfold qV
  rw [hn,hb]
  clear hn hb
  simp only [cond_true,cond_false]
  go_enter func231,ntmps231
  go_wp2_with (go_at_call 232;refine st (BQ _ _) ?_;rw [hE])
  refine bodyPost_ret (v:=_) ?_ rfl ⟨rfl,?_⟩
  ·rw [aj rfl];go_simp
  ·exact kept_alloc _ _
theorem F8 (k j:Nat) (hk:k<16) (hj:j<32) (w:World):Calls prog 203 #[iv (k:Int),iv (j:Int)] w fun e w'=>e=.returned (.bool (Pl.tst k j))∧Kept 0 0 w w':=by
 have hst:=yS
 rw [←Pl.H6 k hk j hj]
 cases hb:Pl.both (k:Int)
 ·have hQ:qV k=.agg #[iv (Pl.need k),.func (.func 256) #[] #[]]:=by unfold qV;rw [hb];rfl
  go_enter func203,ntmps203
  go_wp2_with fail
  refine (uY k hk _).mono ?_
  rintro e9 W ⟨rfl,hk9⟩
  rw [hQ]
  have HK:=hide hk9
  clear hk9
  go_wp2_with (first|(go_at_call 256;refine st (isNone _ _) ?_)|(go_at_call 232;refine st (BQ _ _) ?_))
  go_ret
  exact ⟨rfl,ah HK.o _⟩
 ·have hQ:qV k=.agg #[iv (Pl.need k),.func (.func 257) #[] #[]]:=by unfold qV;rw [hb];rfl
  go_enter func203,ntmps203
  go_wp2_with fail
  refine (uY k hk _).mono ?_
  rintro e9 W ⟨rfl,hk9⟩
  rw [hQ]
  have HK:=hide hk9
  clear hk9
  go_wp2_with (first|(go_at_call 257;refine st (Qb _ _) ?_)|(go_at_call 232;refine st (BQ _ _) ?_))
  go_ret
  exact ⟨rfl,ah HK.o _⟩
theorem listOf (x0 x1 x2 x3:Int) (w:World) :
  Calls prog 97 #[.agg #[iv x0,iv x1,iv x2,iv x3]] w fun e w'=>∃g:Nat,e=.returned (.slice (some ⟨g,0,none⟩) 4 4)∧w.heap.size≤g∧Blk w' g (cellsOf [x0,x1,x2,x3]) 3∧Kept 0 0 w w':=
 (Oh x0 x1 x2 x3 w).mono (fun e w' h=>⟨_,h.1,by omega,h.2⟩)
theorem bkS {w:World} {b:Nat} {r:Pl.Rg} {t:TypeId} (h:Blk w b (bkR r) t):w.cell? ⟨b,0,none⟩=some (iv (el r.xs 0))∧w.cell? ⟨b,1,none⟩=some (iv (el r.xs 1))∧w.cell? ⟨b,2,none⟩=some (iv (el r.xs 2))∧w.cell? ⟨b,3,none⟩=some (iv (el r.xs 3))∧w.cell? ⟨b,4,none⟩=some (iv (el r.ys 0))∧w.cell? ⟨b,5,none⟩=some (iv (el r.ys 1))∧w.cell? ⟨b,6,none⟩=some (iv (el r.ys 2))∧w.cell? ⟨b,7,none⟩=some (iv (el r.ys 3))∧w.cell? ⟨b,8,none⟩=some (iv r.o)∧w.cell? ⟨b,9,none⟩=some (iv r.p)∧w.cell? ⟨b,10,none⟩=some (iv r.f)∧w.cell? ⟨b,11,none⟩=some (iv r.m)∧w.cell? ⟨b,12,none⟩=some (.bool r.s)∧w.cell? ⟨b,13,none⟩=some (.bool r.t):=
 ⟨h.cell (i:=0) rfl,h.cell (i:=1) rfl,h.cell (i:=2) rfl,h.cell (i:=3) rfl,h.cell (i:=4) rfl,h.cell (i:=5) rfl,h.cell (i:=6) rfl,h.cell (i:=7) rfl,h.cell (i:=8) rfl,h.cell (i:=9) rfl,h.cell (i:=10) rfl,h.cell (i:=11) rfl,h.cell (i:=12) rfl,h.cell (i:=13) rfl⟩
theorem qN (r:Pl.Rg) (w:World) (f0:0≤r.f) (f1:r.f≤31) (m0:0≤r.m) (m1:r.m≤7) :
  Calls prog 93 #[.agg (bkR r)] w fun e w'=>e=.returned (iv (Pl.status r))∧Kept 0 0 w w':=by
 obtain ⟨s0,s1⟩:0≤Pl.fl1 r.s 256∧Pl.fl1 r.s 256≤256:=by cases r.s<;>simp [Pl.fl1]
 obtain ⟨t0,t1⟩:0≤Pl.fl1 r.t 512∧Pl.fl1 r.t 512≤512:=by cases r.t<;>simp [Pl.fl1]
 have w64:∀ {n:Int},-9223372036854775808≤n→n≤9223372036854775807→IntKind.i64.wrap n=n:=fun h0 h1=>by rw [IntKind.wrap_i64];omega
 have e1:IntKind.i64.wrap (r.m*32)=r.m*32:=w64 (by omega) (by omega)
 have e2:IntKind.i64.wrap (r.f+r.m*32)=r.f+r.m*32:=w64 (by omega) (by omega)
 have e3:IntKind.i64.wrap (r.f+r.m*32+Pl.fl1 r.s 256)=r.f+r.m*32+Pl.fl1 r.s 256:=w64 (by omega) (by omega)
 have e4:IntKind.i64.wrap (r.f+r.m*32+Pl.fl1 r.s 256+Pl.fl1 r.t 512)=r.f+r.m*32+Pl.fl1 r.s 256+Pl.fl1 r.t 512:=w64 (by omega) (by omega)
 clear w64
 have HK:=hide (kept_alloc w (.cells (bkR r) 85))
 have E:Hid (r.f+r.m*32+Pl.fl1 r.s 256+Pl.fl1 r.t 512=Pl.status r):=hide (by unfold Pl.status;omega)
 unfold bkR
 go_enter func93,ntmps93
 go_wp2_with fail
 go_quiet (first|(go_at_call 133;exact Calls.quiet_of_same (JS _ _ _))|fail)
 go_wp2_with fail
 go_ret
 exact ⟨rI E.o,au HK.o _⟩
theorem Bd {w:World} {b:Nat} {cs:Array Value} {t:TypeId} (h:Blk w b cs t):Blk w.drew b cs t:=h
theorem LP (r:Pl.Rg) (w:World) (lx:r.xs.length=4) (ly:r.ys.length=4) :
  Calls prog 59 #[.agg (bkR r)] w fun e w'=>∃(a' b':Option Addr) (ca' cb':Nat),e=.returned (.agg #[.slice a' r.xs.length ca',.slice b' r.ys.length cb',iv r.o,iv r.p,iv r.f,iv r.m,.bool r.s,.bool r.t])∧Af w' w.heap.size r a' b'∧Kept 0 0 w w':=by
 have LX:=hide lx
 have LY:=hide ly
 clear lx ly
 have B0:=hide ((Blk.new w (bkR r) 85).alloc (.cells #[.slice none 0 0,.slice none 0 0,iv 0,iv 0,iv 0,iv 0,.bool false,.bool false] 31))
 have R0:=Blk.new (w.alloc (.cells (bkR r) 85)) #[.slice none 0 0,.slice none 0 0,iv 0,iv 0,iv 0,iv 0,.bool false,.bool false] 31
 simp only [World.size_alloc] at R0
 replace R0:=hide R0
 have K0:=hide (ah (kept_alloc w (.cells (bkR r) 85)) (.cells #[.slice none 0 0,.slice none 0 0,iv 0,iv 0,iv 0,iv 0,.bool false,.bool false] 31))
 unfold bkR
 go_enter func59,ntmps59
 go_wp2_with fail
 obtain ⟨W,hW⟩:∃W:World,W=(w.alloc (.cells (bkR r) 85)).alloc (.cells #[.slice none 0 0,.slice none 0 0,iv 0,iv 0,iv 0,iv 0,.bool false,.bool false] 31):=⟨_,rfl⟩
 have hW2:(w.alloc (.cells #[iv (el r.xs 0),iv (el r.xs 1),iv (el r.xs 2),iv (el r.xs 3),iv (el r.ys 0),iv (el r.ys 1),iv (el r.ys 2),iv (el r.ys 3),iv r.o,iv r.p,iv r.f,iv r.m,.bool r.s,.bool r.t] 85)).alloc (.cells #[.slice none 0 0,.slice none 0 0,iv 0,iv 0,iv 0,iv 0,.bool false,.bool false] 31)=W:=hW.symm
 rw [←hW] at B0 R0 K0
 rw [hW2]
 clear hW hW2
 obtain ⟨c0,c1,c2,c3,c4,c5,c6,c7,c8,c9,c10,c11,c12,c13⟩:=bkS B0.o
 go_region_held3 (fun w'=>w'.cell? ⟨w.heap.size,0,none⟩=some (iv (el r.xs 0))∧w'.cell? ⟨w.heap.size,1,none⟩=some (iv (el r.xs 1))∧w'.cell? ⟨w.heap.size,2,none⟩=some (iv (el r.xs 2))∧w'.cell? ⟨w.heap.size,3,none⟩=some (iv (el r.xs 3))∧w'.cell? ⟨w.heap.size,4,none⟩=some (iv (el r.ys 0))∧w'.cell? ⟨w.heap.size,5,none⟩=some (iv (el r.ys 1))∧w'.cell? ⟨w.heap.size,6,none⟩=some (iv (el r.ys 2))∧w'.cell? ⟨w.heap.size,7,none⟩=some (iv (el r.ys 3))∧w'.cell? ⟨w.heap.size,8,none⟩=some (iv r.o)∧w'.cell? ⟨w.heap.size,9,none⟩=some (iv r.p)∧w'.cell? ⟨w.heap.size,10,none⟩=some (iv r.f)∧w'.cell? ⟨w.heap.size,11,none⟩=some (iv r.m)∧w'.cell? ⟨w.heap.size,12,none⟩=some (.bool r.s)∧w'.cell? ⟨w.heap.size,13,none⟩=some (.bool r.t)) (first|with_reducible exact bkS B4.o|with_reducible exact bkS B3.o|with_reducible exact bkS (Bd B0.o)|exact bkS ((((((((B4.o.other _ _ _ (by omega)).other _ _ _ (by omega)).other _ _ _ (by omega)).other _ _ _ (by omega)).other _ _ _ (by omega)).other _ _ _ (by omega)).other _ _ _ (by omega)).other _ _ _ (by omega)))
  (first|(go_at_call 97;have B4:=B3;clear B4;refine (listOf _ _ _ _ _).mono ?_;rintro e w4 ⟨g',rfl,hg4,hb4,kd⟩;have B4:=hide (B3.o.af kd);have R4:=hide (R3.o.af kd);have q0:=R4.o.cell (i:=0) rfl;have fq0:=R4.o.frozen 0;have q1:=R4.o.cell (i:=1) rfl;have fq1:=R4.o.frozen 1;have q2:=R4.o.cell (i:=2) rfl;have fq2:=R4.o.frozen 2;have q3:=R4.o.cell (i:=3) rfl;have fq3:=R4.o.frozen 3;have q4:=R4.o.cell (i:=4) rfl;have fq4:=R4.o.frozen 4;have q5:=R4.o.cell (i:=5) rfl;have fq5:=R4.o.frozen 5;have q6:=R4.o.cell (i:=6) rfl;have fq6:=R4.o.frozen 6;have q7:=R4.o.cell (i:=7) rfl;have fq7:=R4.o.frozen 7;have G4:=hide (G3.o.af kd);have H4:=hide hb4;have L4:=hide hg4;have K4:=hide (K3.o.trans kd);clear hg4 hb4 kd)|(go_at_call 97;refine (listOf _ _ _ _ _).mono ?_;rintro e w3 ⟨g,rfl,hg3,hb3,kd⟩;have k3:=bW kd;have B3:=hide (B0.o.af k3);have R3:=hide (R0.o.af k3);have G3:=hide hb3;have L3:Hid (W.heap.size≤g):=hide hg3;have K3:=hide (K0.o.trans k3);clear hg3 hb3 kd k3))
 go_wp2_with fail
 have l0:=R0.o.lt
 have l3:=L3.o
 have l4:=L4.o
 have l5:=G3.o.lt
 have l6:=H4.o.lt
 have l7:=G4.o.lt
 have k0:=K0.o.size
 refine bodyPost_ret (v:=.agg #[.slice (some ⟨g,0,none⟩) 4 4,.slice (some ⟨g',0,none⟩) 4 4,iv r.o,iv r.p,iv r.f,iv r.m,.bool r.s,.bool r.t]) ?_ rfl ⟨some ⟨g,0,none⟩,some ⟨g',0,none⟩,4,4,?_,⟨.inr ⟨g,rfl,by omega,?_,?_⟩,.inr ⟨g',rfl,by omega,?_,?_⟩,?_⟩,?_⟩
 ·rw [aj rfl];go_simp
 ·rw [LX.o,LY.o]
 ·simpa using l7
 ·rw [list4 LX.o];exact jM ((((((((G4.o.other _ _ _ (by omega)).other _ _ _ (by omega)).other _ _ _ (by omega)).other _ _ _ (by omega)).other _ _ _ (by omega)).other _ _ _ (by omega)).other _ _ _ (by omega)).other _ _ _ (by omega))
 ·simpa using l6
 ·rw [list4 LY.o];exact jM ((((((((H4.o.other _ _ _ (by omega)).other _ _ _ (by omega)).other _ _ _ (by omega)).other _ _ _ (by omega)).other _ _ _ (by omega)).other _ _ _ (by omega)).other _ _ _ (by omega)).other _ _ _ (by omega))
 ·intro g2 h2 h3
  simp [blk] at h2 h3
  omega
 ·exact (ag (ag (ag (ag (ag (ag (ag (ag K4.o _ _ _ (.inr (by omega))) _ _ _ (.inr (by omega))) _ _ _ (.inr (by omega))) _ _ _ (.inr (by omega))) _ _ _ (.inr (by omega))) _ _ _ (.inr (by omega))) _ _ _ (.inr (by omega))) _ _ _ (.inr (by omega)))
namespace Pl
theorem Wi {c:Mc} (h:GM c) {z q k s:Int} (hz:z=1∨z=2) (hq:okv z q=true) (s0:0≤s) (s1:s≤7) (k0:0≤k) (k1:k≤3):okv z (jc s z c.r.f q (k+1))=true:=by
 have g:=BK hq h.g.f0 h.g.f1 s s0 s1
 have ft:=(pW g).2.2.2.2.2
 have ob:qI s z c.r.f q (k+1)=true:=by unfold qI cnt;rw [g];simp;omega
 have vb:=oU (k:=s) ft (k+1).toNat
 unfold jc
 rw [if_pos ob]
 obtain ⟨v1,v2,v3,_⟩:=vb
 unfold okv;simp only [Bool.and_eq_true,Bool.or_eq_true,decide_eq_true_eq];exact ⟨v1,v2,v3⟩
end Pl
theorem TA (w:World) (lo b g:Nat) (c:Pl.Mc) (h:Bool) (op z r m k e s:Int) (hC:CAt w lo b g c h) (G:Pl.GM c) (B:Pl.InB ⟨op,z,r,m,k,e,s⟩) :
  Calls prog 167 #[.pointer (some ⟨b,0,none⟩),.agg (inA op z r m k e s)] w fun e' w'=>e'=.returned (.tuple #[])∧CAt w' lo b g ((c.put z r (Pl.jc s z c.r.f (c.low z r) (k+1))).aB (Pl.oH s z c.r.f (c.low z r) (k+1))) h∧Kept b (b+1) w w':=by
 obtain ⟨l0,l1,l2,l3,l4⟩:=hC.lt
 have HG:=hide G
 have HB:=hide B
 have K0:=hide (kept_alloc w (.cells (inA op z r m k e s) 109))
 have C0:=hide (hC.alloc (.cells (inA op z r m k e s) 109))
 have A0:=hide (Blk.new w (inA op z r m k e s) 109)
 obtain ⟨X,hX⟩:∃X:World,w.alloc (.cells (inA op z r m k e s) 109)=X:=⟨_,rfl⟩
 rw [hX] at K0 C0 A0
 have sX:w.heap.size<X.heap.size:=A0.o.lt
 have p:=A0.o.all
 clear hC G B
 have OQ:Pl.okv z (c.low z r)=true:=Pl.fJ HG.o HB.o.z HB.o.r0 HB.o.r1
 have OV:=hide (Pl.Wi (s:=s) (k:=k) HG.o HB.o.z OQ HB.o.s0 HB.o.s1 HB.o.k0 HB.o.k1)
 obtain ⟨Q,hQ⟩:∃Q,Q=c.low z r:=⟨_,rfl⟩
 rw [←hQ] at OV OQ ⊢
 have tq:=Pl.aP OQ
 have kb0:0≤k:=HB.o.k0
 have kb1:k≤3:=HB.o.k1
 have ew:IntKind.i64.wrap (k+1)=k+1:=by rw [IntKind.wrap_i64];omega
 obtain ⟨V,hV⟩:∃V,V=Pl.jc s z c.r.f Q (k+1):=⟨_,rfl⟩
 obtain ⟨F,hF⟩:∃F,F=Pl.oH s z c.r.f Q (k+1):=⟨_,rfl⟩
 rw [←hV] at OV ⊢
 rw [←hF]
 have HQ:=hide hQ
 have HV:=hide hV
 have HF:=hide hF
 have W6:W64 Q:=⟨by omega,by omega⟩
 clear hQ hV hF OQ tq
 go_enter func167,ntmps167
 go_wp2_with fail
 clear hX p
 obtain ⟨u0,u1,u2,u3,u4,u5,u6⟩:=A0.o.c7
 have u10:=C0.o.cF
 go_region_held3 (fun w'=>w'.cell? ⟨w.heap.size,0,none⟩=some (iv op)∧w'.cell? ⟨w.heap.size,1,none⟩=some (iv z)∧w'.cell? ⟨w.heap.size,2,none⟩=some (iv r)∧w'.cell? ⟨w.heap.size,3,none⟩=some (iv m)∧w'.cell? ⟨w.heap.size,4,none⟩=some (iv k)∧w'.cell? ⟨w.heap.size,5,none⟩=some (iv e)∧w'.cell? ⟨w.heap.size,6,none⟩=some (iv s)∧w'.cell? ⟨b,10,none⟩=some (iv c.r.f)) (first|with_reducible exact and7 A2.o.c7 C2.o.cF|with_reducible exact and7 A1.o.c7 C1.o.cF|exact and7 (show Blk _ _ _ _ from A0.o).c7 C0.o.drew.cF)
  (first|(go_at_call 202;have z9:=C1;refine (Nu s z c.r.f Q (k+1) _ W6).mono ?_;rintro e9 W2 ⟨rfl,b2⟩;rw [←HV.o,←HF.o];have k2:=nN b2;have C2:=hide (C1.o.any k2);have A2:=hide (A1.o.af k2);have K2:=hide (K1.o.trans k2);clear b2 k2)|(go_at_call 194;refine (nT _ lo b g c h z r C0.o.drew HB.o.z HB.o.r0 HB.o.r1).mono ?_;rintro e9 W1 ⟨rfl,kd⟩;rw [←HQ.o];have k1:=bW kd;have C1:=hide (C0.o.any k1);have A1:=hide (A0.o.af k1);have K1:=hide (K0.o.trans k1);clear kd k1))
 clear u0 u1 u2 u3 u4 u5 u6 u10
 go_wp2_with fail
 have u1:=A2.o.cell (i:=1) rfl
 have u2:=A2.o.cell (i:=2) rfl
 go_region_held3 (fun w'=>w'.cell? ⟨w.heap.size,1,none⟩=some (iv z)∧w'.cell? ⟨w.heap.size,2,none⟩=some (iv r)) (first|with_reducible exact ⟨A3.o.cell (i:=1) rfl,A3.o.cell (i:=2) rfl⟩|exact ⟨(show Blk _ _ _ _ from A2.o).cell (i:=1) rfl,(show Blk _ _ _ _ from A2.o).cell (i:=2) rfl⟩)
  (first|(go_at_call 195;refine (Lp _ lo b g c h z r V C2.o.drew HG.o.g HB.o.r0 HB.o.r1 HB.o.z OV.o).mono ?_;rintro e9 W3 ⟨rfl,hc3,kd⟩;have k3:=bW kd;have C3:=hide hc3;have A3:=hide (A2.o.kept k3 (by omega));have K3:=hide (K2.o.any.trans k3);clear hc3 kd k3))
 have cf:=C3.o.cF
 have cz:=C3.o.fz
 go_wp2_with fail
 go_end0
 exact ⟨rfl,C3.o.aB F,ag K3.o _ _ _ (.inl ⟨by omega,by omega⟩)⟩
theorem Cb (k j:Int) (k0:0≤k) (k1:k<16) (j0:0≤j) (j1:j<32) (w:World):Calls prog 203 #[iv k,iv j] w fun e w'=>e=.returned (.bool (Pl.tst k j))∧Kept 0 0 w w':=by
 obtain ⟨n,rfl⟩:∃n:Nat,k=(n:Int):=⟨k.toNat,by omega⟩
 obtain ⟨m,rfl⟩:∃m:Nat,j=(m:Int):=⟨j.toNat,by omega⟩
 exact F8 n m (by omega) (by omega) w
theorem PS (w:World) (lo b g:Nat) (c:Pl.Mc) (h:Bool) (op z r m k e s:Int) (hC:CAt w lo b g c h) (G:Pl.GM c) (B:Pl.InB ⟨op,z,r,m,k,e,s⟩) (hr:r≤1) :
  Calls prog 168 #[.pointer (some ⟨b,0,none⟩),.agg (inA op z r m k e s)] w fun e' w'=>e'=.returned (.tuple #[])∧CAt w' lo b g (bif Pl.tst (s+8*r) c.r.f then c.aJ ((c.r.p-2+e)%65536) else c) h∧Kept b (b+1) w w':=by
 obtain ⟨l0,l1,l2,l3,l4⟩:=hC.lt
 have HG:=hide G
 have HB:=hide B
 have K0:=hide (kept_alloc w (.cells (inA op z r m k e s) 109))
 have C0:=hide (hC.alloc (.cells (inA op z r m k e s) 109))
 have A0:=hide (Blk.new w (inA op z r m k e s) 109)
 obtain ⟨X,hX⟩:∃X:World,w.alloc (.cells (inA op z r m k e s) 109)=X:=⟨_,rfl⟩
 rw [hX] at K0 C0 A0
 have sX:w.heap.size<X.heap.size:=A0.o.lt
 have p:=A0.o.all
 clear hC G B
 have r0:0≤r:=HB.o.r0
 have s0:0≤s:=HB.o.s0
 have s1:s≤7:=HB.o.s1
 have e0:0≤e:=HB.o.e0
 have e1:e≤65535:=HB.o.e1
 have f0:=HG.o.g.f0
 have f1:=HG.o.g.f1
 have p0:=HG.o.p0
 have p1:=HG.o.p1
 have ew1:IntKind.i64.wrap (8*r)=8*r:=by rw [IntKind.wrap_i64];omega
 have ew2:IntKind.i64.wrap (s+8*r)=s+8*r:=by rw [IntKind.wrap_i64];omega
 have ew3:IntKind.i64.wrap (c.r.p-2)=c.r.p-2:=by rw [IntKind.wrap_i64];omega
 have ew4:IntKind.i64.wrap (c.r.p-2+e)=c.r.p-2+e:=by rw [IntKind.wrap_i64];omega
 go_enter func168,ntmps168
 go_wp2_with fail
 clear hX p
 obtain ⟨u0,u1,u2,u3,u4,u5,u6⟩:=A0.o.c7
 have u10:=C0.o.cF
 go_region_held3 (fun w'=>w'.cell? ⟨w.heap.size,0,none⟩=some (iv op)∧w'.cell? ⟨w.heap.size,1,none⟩=some (iv z)∧w'.cell? ⟨w.heap.size,2,none⟩=some (iv r)∧w'.cell? ⟨w.heap.size,3,none⟩=some (iv m)∧w'.cell? ⟨w.heap.size,4,none⟩=some (iv k)∧w'.cell? ⟨w.heap.size,5,none⟩=some (iv e)∧w'.cell? ⟨w.heap.size,6,none⟩=some (iv s)∧w'.cell? ⟨b,10,none⟩=some (iv c.r.f)) (first|with_reducible exact and7 A1.o.c7 C1.o.cF|exact and7 (show Blk _ _ _ _ from A0.o).c7 C0.o.drew.cF)
  (first|(go_at_call 203;refine (Cb _ _ (by omega) (by omega) f0 (by omega) _).mono ?_;rintro e9 W1 ⟨rfl,kd⟩;have k1:=bW kd;have C1:=hide (C0.o.any k1);have A1:=hide (A0.o.af k1);have K1:=hide (K0.o.trans k1);clear kd k1))
 clear u0 u1 u2 u3 u4 u5 u6 u10
 have q9:=C1.o.cP
 have qz:=C1.o.fz
 have q5:=A1.o.cell (i:=5) rfl
 cases ht:Pl.tst (s+8*r) c.r.f
 ·go_wp2_with fail
  go_end0
  exact ⟨rfl,by rw [ht];exact C1.o,K1.o.any⟩
 ·go_wp2_with fail
  go_region_with (first|(go_at_call 117;refine (gY _ _).mono ?_;rintro e9 w' ⟨rfl,hw⟩;have hw2:=hw.symm;clear hw;subst hw2))
  all_goals
   go_end0
   exact ⟨rfl,by rw [ht];exact (C1.o.aJ _).drew,ae (ag K1.o.any _ _ _ (.inl ⟨by omega,by omega⟩))⟩
theorem CAt.Ac {w:World} {lo b g:Nat} {c:Pl.Mc} {h:Bool} (a:CAt w lo b g c h):w.cell? ⟨b,0,none⟩=some (iv (el c.r.xs 0))∧w.cell? ⟨b,1,none⟩=some (iv (el c.r.xs 1))∧w.cell? ⟨b,2,none⟩=some (iv (el c.r.xs 2))∧w.cell? ⟨b,3,none⟩=some (iv (el c.r.xs 3))∧w.cell? ⟨b,4,none⟩=some (iv (el c.r.ys 0))∧w.cell? ⟨b,5,none⟩=some (iv (el c.r.ys 1))∧w.cell? ⟨b,6,none⟩=some (iv (el c.r.ys 2))∧w.cell? ⟨b,7,none⟩=some (iv (el c.r.ys 3))∧w.cell? ⟨b,8,none⟩=some (iv c.r.o)∧w.cell? ⟨b,9,none⟩=some (iv c.r.p)∧w.cell? ⟨b,10,none⟩=some (iv c.r.f)∧w.cell? ⟨b,11,none⟩=some (iv c.r.m)∧w.cell? ⟨b,12,none⟩=some (.bool c.r.s)∧w.cell? ⟨b,13,none⟩=some (.bool c.r.t):=
 ⟨a.cX (by omega),a.cX (by omega),a.cX (by omega),a.cX (by omega),a.cY (k:=0) (by omega),a.cY (k:=1) (by omega),a.cY (k:=2) (by omega),a.cY (k:=3) (by omega),a.cO,a.cP,a.cF,a.cM,a.cS,a.cT⟩
theorem uS (T:TypeId) (U:Value) (z a:Int) (w:World):(Instr.field 176 (.agg #[.iface T U,iv z,iv a]) 2).run prog w=.ok (iv a) w:=by kernel_rfl
def Pl.Mc.jp (c:Pl.Mc) (x:Pl.In):Pl.Mc:=bif x.s==1 then (bif ((c.slot x.z x.m x.k x.e).push c.r.p).fine then ((c.slot x.z x.m x.k x.e).push c.r.p).aJ (c.readA x.z x.m x.k x.e) else (c.slot x.z x.m x.k x.e).push c.r.p) else (c.slot x.z x.m x.k x.e).aJ (c.readA x.z x.m x.k x.e)
theorem Pl.Hf (c:Pl.Mc) (z m k e:Int):(c.slot z m k e).r.p=c.r.p:=by
 unfold Pl.Mc.slot
 cases Pl.Mc.gI m
 ·exact Pl.qZ c.r z m k e
 ·rfl
theorem Pl.Ry (c:Pl.Mc) (v:Int):(c.push v).f=Pl.Mc.fA c.f 2 2 c.spA:=by
 unfold Pl.Mc.push
 cases (c.acc 2 2 c.spA v).fine<;>rfl
theorem Pl.NM {c E:Pl.Mc} {v:Int} (hf:c.f=Pl.aH) (hE:E=c.push v) (h:(E.f.v != 0)=false):E.f=Pl.aH:=by
 rw [hE,Pl.Ry,hf] at h ⊢
 exact (Pl.nU h).2
theorem TN (w:World) (lo b g:Nat) (c:Pl.Mc) (h:Bool) (op z r m k e:Int) (hC:CAt w lo b g c h) (G:Pl.GM c) (hf:c.f=Pl.aH) (B:Pl.InB ⟨op,z,r,m,k,e,0⟩) :
  Calls prog 169 #[.pointer (some ⟨b,0,none⟩),.agg (inA op z r m k e 0)] w fun e' w'=>∃g',e'=.returned (.agg (ftC (c.jp ⟨op,z,r,m,k,e,0⟩).f))∧CAt w' lo b g' (c.jp ⟨op,z,r,m,k,e,0⟩) h∧Since w b (b+1) g w' g':=by
 have HB:=hide B
 clear B
 obtain ⟨l0,l1,l2,l3,l4⟩:=hC.lt
 have HG:=hide G
 obtain ⟨X,hX,K0,C0,A0,R0,sX⟩:=hC.jh op z r m k e 0
 have p:=A0.o.all
 clear hC G
 obtain ⟨D,hD⟩:∃D,D=c.slot z m k e:=⟨_,rfl⟩
 have GD:Hid (Pl.GM D):=hide (by rw [hD];exact HG.o.slot HB.o.k0 HB.o.k1)
 have DF:Hid (D.f=Pl.aH):=hide (by rw [hD];unfold Pl.Mc.slot;cases Pl.Mc.gI m<;>exact hf)
 have DP:Hid (D.r.p=c.r.p):=hide (by rw [hD];exact Pl.Hf c z m k e)
 obtain ⟨a,ha⟩:∃a,a=c.readA z m k e:=⟨_,rfl⟩
 have HA:=hide ha
 obtain ⟨T,U,hW⟩:=kZ m k e
 have HW:=hide hW
 have HD:=hide hD
 have sa:=uS T U z a
 have ET:Hid (c.jp ⟨op,z,r,m,k,e,0⟩=D.aJ a):=hide (by rw [hD,ha];rfl)
 clear ha hW hD
 have rr:=fun W (R:Blk W (w.heap.size+1) ftZ 49)=>(R.other b 9 (iv a) (by omega)).all
 have rz:=fun W (R:Blk W (w.heap.size+1) ftZ 49)=>(R.other b 9 (iv a) (by omega)).fz
 go_enter func169,ntmps169
 go_wp2_with (go_at_call 166;refine (rQ _ lo b g c h ⟨op,z,r,m,k,e,0⟩ C0.o HG.o HB.o).mono ?_;rintro e9 W1 ⟨rfl,hc,hk⟩;rw [←HA.o,HW.o];rw [←HD.o] at hc;have C1:=hide hc;have A1:=hide (A0.o.kept hk (by omega));have R1:=hide (R0.o.kept hk (by omega));have S1:=hide (((Since.refl w b (b+1) g).any K0.o).ai hk (Nat.le_refl _) (Nat.le_refl _));have p1:=A1.o.all;have r1:=R1.o.all;have rf1:=R1.o.fz;have q9:W1.cell? ⟨b,9,none⟩=some (iv c.r.p):=(by have q:=hc.cP;rw [DP.o] at q;exact q);have qz:=hc.fz;have r2:=rr _ R1.o;have rz2:=rz _ R1.o;clear hc hk)
 have KR:=(((((ak (W1.setCell ⟨b,9,none⟩ (iv a)) (w.heap.size+1) 0 (iv 0)).one 1 (iv 0)).one 2 (iv 0)).one 3 (iv 0)).one 4 (.bool false))
 refine bodyPost_ret (v:=.agg ftZ) ?_ rfl ⟨g,?_,?_,(S1.o.set b 9 (iv a) (.inl (by omega))).mine KR (by omega)⟩
 ·rw [aj rfl];go_simp
 ·rw [ET.o,show (D.aJ a).f=Pl.aH from DF.o];rfl
 ·rw [ET.o];exact ((C1.o.aJ a).kept KR (by omega) (by omega))
theorem TM (w:World) (lo b g:Nat) (c:Pl.Mc) (h:Bool) (op z r m k e:Int) (hC:CAt w lo b g c h) (G:Pl.GM c) (hf:c.f=Pl.aH) (B:Pl.InB ⟨op,z,r,m,k,e,1⟩) :
  Calls prog 169 #[.pointer (some ⟨b,0,none⟩),.agg (inA op z r m k e 1)] w fun e' w'=>∃g',e'=.returned (.agg (ftC (c.jp ⟨op,z,r,m,k,e,1⟩).f))∧CAt w' lo b g' (c.jp ⟨op,z,r,m,k,e,1⟩) h∧Since w b (b+1) g w' g':=by
 have HB:=hide B
 clear B
 obtain ⟨l0,l1,l2,l3,l4⟩:=hC.lt
 have HG:=hide G
 obtain ⟨X,hX,K0,C0,A0,R0,sX⟩:=hC.jh op z r m k e 1
 have p:=A0.o.all
 clear hC G
 obtain ⟨D,hD⟩:∃D,D=c.slot z m k e:=⟨_,rfl⟩
 have GD:Hid (Pl.GM D):=hide (by rw [hD];exact HG.o.slot HB.o.k0 HB.o.k1)
 have DF:Hid (D.f=Pl.aH):=hide (by rw [hD];unfold Pl.Mc.slot;cases Pl.Mc.gI m<;>exact hf)
 have DP:Hid (D.r.p=c.r.p):=hide (by rw [hD];exact Pl.Hf c z m k e)
 obtain ⟨a,ha⟩:∃a,a=c.readA z m k e:=⟨_,rfl⟩
 have HA:=hide ha
 obtain ⟨T,U,hW⟩:=kZ m k e
 have HW:=hide hW
 have HD:=hide hD
 have sa:=uS T U z a
 obtain ⟨E,hE⟩:∃E,E=D.push c.r.p:=⟨_,rfl⟩
 obtain ⟨F,hF⟩:∃F,F=E.f:=⟨_,rfl⟩
 have ET:Hid (c.jp ⟨op,z,r,m,k,e,1⟩=bif !(F.v != 0) then E.aJ a else E):=hide (by
  show (bif ((c.slot z m k e).push c.r.p).fine then ((c.slot z m k e).push c.r.p).aJ (c.readA z m k e) else (c.slot z m k e).push c.r.p)=_
  rw [←hD,←ha,←hE,hF];unfold Pl.Mc.fine;simp [bne])
 have HE:=hide hE
 have HF:=hide hF
 have HP0:=hide HG.o.p0
 have HP1:=hide HG.o.p1
 clear ha hW hD hE hF
 go_enter func169,ntmps169
 go_wp2_with (first|(go_at_call 95;have z9:=C1;refine (V5 _ lo b g D h c.r.p C1.o GD.o DF.o HP0.o HP1.o).mono ?_;rintro e9 W2 ⟨g',rfl,hc,hs⟩;rw [←HE.o] at hc ⊢;rw [←HF.o];unfold ftC;have C2:=hide (hc.alloc (.cells (ftA F) 49));have A2:=hide ((hs.blk A1.o (by omega) (by omega)).alloc (.cells (ftA F) 49));have R2:=hide ((hs.blk R1.o (by omega) (by omega)).alloc (.cells (ftA F) 49));have S2:=hide ((S1.o.trans hs).alloc (.cells (ftA F) 49));have L2:=hide (Blk.new W2 (ftA F) 49);have z2:=hs.size;have n2:=hs.ne (b:=w.heap.size+1) R1.o.lt (by omega);clear hc hs)|(go_at_call 166;refine (rQ _ lo b g c h ⟨op,z,r,m,k,e,1⟩ C0.o HG.o HB.o).mono ?_;rintro e9 W1 ⟨rfl,hc,hk⟩;rw [←HA.o,HW.o];rw [←HD.o] at hc;have C1:=hide hc;have A1:=hide (A0.o.kept hk (by omega));have R1:=hide (R0.o.kept hk (by omega));have S1:=hide (((Since.refl w b (b+1) g).any K0.o).ai hk (Nat.le_refl _) (Nat.le_refl _));have p1:=A1.o.all;have r1:=R1.o.all;have rf1:=R1.o.fz;have q9:W1.cell? ⟨b,9,none⟩=some (iv c.r.p):=(by have q:=hc.cP;rw [DP.o] at q;exact q);have qz:=hc.fz;clear hc hk))
 refine (gu F _).mono ?_
 rintro e9 W4 ⟨rfl,kf⟩
 have C4:=hide (C2.o.any kf)
 have A4:=hide (A2.o.af kf)
 have R4:=hide (R2.o.af kf)
 have L4:=hide (L2.o.af kf)
 have S4:=hide (S2.o.any kf)
 have p4:=A4.o.all
 have q4:=L4.o.all
 have r4:=R4.o.all
 have rf4:=R4.o.fz
 clear kf
 have qa:=C4.o.cP
 have qb:=C4.o.fz
 have r5:=(R4.o.other b 9 (iv a) (by omega)).all
 have rf5:=(R4.o.other b 9 (iv a) (by omega)).fz
 clear hX p p1 q9 qz r1 rf1
 cases hv:(F.v != 0)
 ·have E1:Hid (c.jp ⟨op,z,r,m,k,e,1⟩=E.aJ a):=hide (by rw [ET.o,hv];rfl)
  have EF:Hid (E.f=Pl.aH):=hide (Pl.NM DF.o HE.o (by rw [←HF.o];exact hv))
  go_wp2_with fail
  have KR:=(((((ak (W4.setCell ⟨b,9,none⟩ (iv a)) (w.heap.size+1) 0 (iv 0)).one 1 (iv 0)).one 2 (iv 0)).one 3 (iv 0)).one 4 (.bool false))
  refine bodyPost_ret (v:=.agg ftZ) ?_ rfl ⟨g',?_,?_,(S4.o.set b 9 (iv a) (.inl (by omega))).mine KR (by omega)⟩
  ·rw [aj rfl];go_simp
  ·rw [E1.o,show (E.aJ a).f=Pl.aH from EF.o];rfl
  ·rw [E1.o];exact ((C4.o.aJ a).kept KR (by omega) (by omega))
 ·have E1:Hid (c.jp ⟨op,z,r,m,k,e,1⟩=E):=hide (by rw [ET.o,hv];rfl)
  go_wp2_with fail
  have KR:=(((((ak W4 (w.heap.size+1) 0 (iv F.v)).one 1 (iv F.pc)).one 2 (iv F.ad)).one 3 (iv F.wo)).one 4 (.bool F.wr))
  refine bodyPost_ret (v:=.agg (ftA F)) ?_ rfl ⟨g',?_,?_,(S4.o).mine KR (by omega)⟩
  ·rw [aj rfl];go_simp
  ·rw [E1.o,←HF.o];rfl
  ·rw [E1.o];exact ((C4.o).kept KR (by omega) (by omega))
end Go.Proofs.YtkkmnnhaailkcaaGreatDoor
