/- Part 18 of what the last text leans on. -/
import Derived.Test.YtkkmnnhaailkcaaGreatDoorJB17
import Derived.Test.YtkkmnnhaailkcaaGreatDoorJB14
import Derived.Test.YtkkmnnhaailkcaaGreatDoorJB1
import Derived.Test.YtkkmnnhaailkcaaGreatDoorJB4
import Derived.Test.YtkkmnnhaailkcaaGreatDoorJB8
import Derived.Test.YtkkmnnhaailkcaaGreatDoorJB13
import Derived.Deep.QuietTactic
import Derived.Deep.RegionHeld3
import Derived.BigQuiet
import Derived.Test.YtkkmnnhaailkcaaGreatDoorJB16
import Derived.Test.YtkkmnnhaailkcaaGreatDoorJB3
import Derived.Test.YtkkmnnhaailkcaaGreatDoorJB2
set_option maxRecDepth 100000
set_option maxHeartbeats 16000000
namespace Go.Proofs.YtkkmnnhaailkcaaGreatDoor
open Go.RowKit Go.Proofs.Tryz
set_option linter.unusedVariables false
def Pl.Gi (k s f v:Int):Nat→Int
 | 0=>Pl.wQ k f
 | m+1=>Pl.fell k s (Pl.st k s (v,f/16) m).1
def Pl.JD (k s f v:Int):Nat→Bool
 | 0=>false
 | m+1=>Pl.vfl k s (Pl.st k s (v,f/16) m).2 (Pl.st k s (v,f/16) m).1
theorem Pl.FZ (k s f v:Int) (m:Nat):k=0∨Pl.JD k s f v m=false:=by
 cases m with
 | zero=>exact .inr rfl
 | succ m=>
  by_cases h:k=0
  ·exact .inl h
  ·exact .inr (by simp [Pl.JD,Pl.vfl,h])
theorem Pl.Pz {k s f v:Int} (h:Pl.Fit s (v,f/16)) (m:Nat):0≤Pl.Gi k s f v m∧Pl.Gi k s f v m≤1:=by
 cases m with
 | zero=>
  obtain ⟨_,_,_,x0,x1⟩:=h
  simp only at x0 x1
  unfold Pl.Gi Pl.wQ
  split<;>omega
 | succ m=>exact Pl.nX _ _ _
theorem Pl.Qk {k s f v:Int} (h:Pl.Fit s (v,f/16)) (m:Nat):Pl.Gi k s f v m+Pl.fl (Pl.ov k s (v,f/16) m) 2+Pl.zn s (Pl.st k s (v,f/16) m).1+16*(Pl.st k s (v,f/16) m).2=Pl.byF k s (v,f/16) m:=by
 cases m with
 | zero=>
  obtain ⟨_,_,_,x0,x1⟩:=h
  simp only at x0 x1
  have hx:f/16=0∨f/16=1:=by omega
  unfold Pl.Gi Pl.wQ Pl.byF Pl.ov Pl.st
  simp only
  by_cases h6:6≤k
  ·rcases hx with hx|hx<;>simp [hx,h6,Pl.fl]
  ·simp [h6,Pl.fl]
 | succ m=>rfl
theorem xN (k s f v n:Int) (w:World) (h:Pl.qi k s f v=true) (n0:0≤n) (n1:n≤63) :
  Calls prog 202 #[iv k,iv s,iv f,iv v,iv n] w fun e w'=>e=.returned (.tuple #[iv (Pl.st k s (v,f/16) n.toNat).1,iv (Pl.byF k s (v,f/16) n.toNat),.bool true])∧Below w.heap.size w w':=by
 have HG:=hide h
 obtain ⟨k0,k1,_,f0,f1,hf⟩:=Pl.qh h
 have HF:=hide hf
 have d0:decide (n<0)=false:=by simp;omega
 have d1:decide (63<n)=false:=by simp;omega
 clear h hf
 go_enter func202,ntmps202
 go_wp2_with fail
 refine (rowOf k s f v _ HG.o).mono ?_
 rintro e w1 ⟨rfl,hb⟩
 have HB:=hide hb
 clear hb
 go_wp2_with fail
 go_loopw [15,35] (fun T I wr=>∃m:Nat,(m:Int)≤n∧T=.bool (Pl.ov k s (v,f/16) m)∧I=iv m∧Box wr w1.heap.size (Pl.st k s (v,f/16) m).1 (8*s) (Pl.st k s (v,f/16) m).2 (Pl.Gi k s f v m) (Pl.JD k s f v m)∧Below w.heap.size w wr) (fun _ I _=>n.toNat-(intOf I).toNat)
 case atStart=>exact ⟨0,n0,rfl,rfl,Box.Yo _ _ _ _ _ _,HB.o.alloc HB.o.size _⟩
 case round=>
  obtain ⟨m,hm,rfl,rfl,hB,hW⟩:=hrel
  have HBm:=hide hB
  have HW:=hide hW
  have hst:=hide (Pl.oZ (k:=k) HF.o m)
  obtain ⟨c0,c1,c2,c3,c4,g0,g1,g2,g3,g4⟩:=hB.cells
  clear hB hW
  by_cases hlt:(m:Int)<n
  ·clear g0 g1 g2 g3 g4
   cases ho:Pl.ov k s (v,f/16) m
   all_goals
    go_wp2_with fail
    refine (moved k s _ _ _ _ _ _ k0 k1 hst.o rfl (Pl.FZ k s f v m)).mono ?_
    rintro e wt ⟨rfl,hb2⟩
    have Bt:=hide (HBm.o.later hb2)
    have HX:Hid (Below w.heap.size w wt):=hide (HW.o.trans (hb2.mono HW.o.size))
    clear hb2 c0 c1 c2 c3 c4
    obtain ⟨c0,c1,c2,c3,c4,g0,g1,g2,g3,g4⟩:=Bt.o.cells
    go_wp2_with fail
    go_roundw
    case rel=>exact ⟨m+1,by omega,by simp [Pl.ov,ho],by go_num,Bt.o.set,Below.oJ HX.o HB.o.size _ _ _ _ _⟩
    case measure=>simp [intOf];omega
  ·obtain rfl:n=(m:Int):=by omega
   have hfa:=Pl.Pz (k:=k) HF.o m
   have HE:=hide (Pl.Qk (k:=k) HF.o m)
   have d2:decide ((m:Int)<(m:Int))=false:=by simp
   go_wp2_with fail
   obtain ⟨X,hX⟩:∃X:World,X=wr.setCell ⟨w1.heap.size,4,none⟩ (.bool (Pl.ov k s (v,f/16) m)):=⟨_,rfl⟩
   rw [←hX]
   have B2:=hide (HBm.o.Yh (t':=Pl.ov k s (v,f/16) m))
   rw [←hX] at B2
   have HY:Hid (Below w.heap.size w X):=hide (by rw [hX];exact HW.o.setCell HB.o.size _)
   clear hX c0 c1 c2 c3 c4 g0 g1 g2 g3 g4
   obtain ⟨c0,c1,c2,c3,c4,_,_,_,_,_⟩:=B2.o.cells
   go_region_with (go_at_call 230;refine (TQ s _ _ _ _ _ _ hst.o rfl hfa.1 hfa.2).mono ?_;rintro e wx ⟨rfl,o1,o2,rfl⟩;obtain ⟨z0,z1,z2,z3,z4,_,_,_,_,_⟩:=(B2.o.two o1 o2).cells)
   all_goals
    go_wp2_with fail
    go_ret3
    exact ⟨lX rfl HE.o rfl,((HY.o.alloc HY.o.size _).alloc (by simpa using Nat.le_succ_of_le HY.o.size) _).drew⟩
theorem NK (k s f v n:Int) (w:World) (hv:W64 v) :
  Calls prog 202 #[iv k,iv s,iv f,iv v,iv n] w fun e w'=>e=.returned (.tuple #[iv (Pl.jg k s f v n),iv (Pl.oL k s f v n),.bool (Pl.qM k s f v n)])∧Below w.heap.size w w':=by
 cases h:Pl.qi k s f v
 ·have K:Hid (Pl.qM k s f v n=false∧Pl.jg k s f v n=0∧Pl.oL k s f v n=0):=hide (by simp [Pl.jg,Pl.oL,Pl.qM,h])
  go_enter func202,ntmps202
  go_wp2_with fail
  refine (EW k s f v _ hv.1 hv.2 h).mono ?_
  rintro e w1 ⟨rfl,hb⟩
  go_wp2_with fail
  go_ret3
  exact ⟨lX K.o.2.1.symm K.o.2.2.symm K.o.1.symm,hb.alloc hb.size _⟩
 ·by_cases hn:0≤n∧n≤63
  ·have hk:Pl.qM k s f v n=true:=Pl.Qj h hn.1 hn.2
   refine (xN k s f v n w h hn.1 hn.2).mono ?_
   rintro e w' ⟨rfl,hb⟩
   exact ⟨lX (by simp [Pl.jg,hk]) (by simp [Pl.oL,hk]) hk.symm,hb⟩
  ·have K:Hid (Pl.qM k s f v n=false∧Pl.jg k s f v n=0∧Pl.oL k s f v n=0):=by
    have:Pl.cnt n=false:=by simp [Pl.cnt];omega
    exact hide (by simp [Pl.jg,Pl.oL,Pl.qM,this])
   obtain d0|⟨d0,d1⟩:decide (n<0)=true∨(decide (n<0)=false∧decide (63<n)=true):=by simp;omega
   all_goals
    clear hn
    go_enter func202,ntmps202
    go_wp2_with fail
    refine (rowOf k s f v _ h).mono ?_
    rintro e w1 ⟨rfl,hb⟩
    go_wp2_with fail
    go_ret3
    exact ⟨lX K.o.2.1.symm K.o.2.2.symm K.o.1.symm,hb.alloc hb.size _⟩
namespace Pl
def both (k:Int):Bool:=k-k%2==12||k-k%2==14
def said (b:Bool) (s:Int):Bool:=s==0||(b&&s==10)
theorem Ik:∀k:Nat,k<16→∀f:Nat,f<32→(said (both (k:Int)) (bits .and .i64 (f:Int) (need (k:Int)))==((k:Int)==bits .andNot .i64 (k:Int) 1))=tst k f:=by decide +kernel
theorem PD:∀k:Nat,k<16→(bits .andNot .i64 (k:Int) 1=0∧need k=0∧both k=false)∨(bits .andNot .i64 (k:Int) 1=2∧need k=5∧both k=false)∨(bits .andNot .i64 (k:Int) 1=4∧need k=1∧both k=false)∨(bits .andNot .i64 (k:Int) 1=6∧need k=4∧both k=false)∨(bits .andNot .i64 (k:Int) 1=8∧need k=2∧both k=false)∨(bits .andNot .i64 (k:Int) 1=10∧need k=8∧both k=false)∨(bits .andNot .i64 (k:Int) 1=12∧need k=10∧both k=true)∨(bits .andNot .i64 (k:Int) 1=14∧need k=14∧both k=true):=by decide +kernel
end Pl
theorem zh (a:Addr) (fn:Fn) (m:Mode) (w:World):(store a (.func fn #[] #[]) m).run prog w=stored prog w a (.func fn #[] #[]) m:=run_store prog w a _ m rfl
theorem CE (c:Int) (w:World):Calls prog 232 #[iv c] w fun e w'=>e=.returned (iv (bits .andNot .i64 c 1))∧w'=w:=by
 go_enter func232,ntmps232
 go_wp2
 go_ret
 exact ⟨rfl,rfl⟩
theorem isNone (s:Int) (w:World):Calls prog 256 #[iv s] w fun e w'=>e=.returned (.bool (Pl.said false s))∧w'=w:=by
 go_enter func256,ntmps256
 go_wp2
 go_ret
 exact ⟨rB (by unfold Pl.said;simp),rfl⟩
theorem Qp (s:Int) (w:World):Calls prog 257 #[iv s] w fun e w'=>e=.returned (.bool (Pl.said true s))∧w'=w:=by
 by_cases h:s=0
 ·go_enter func257,ntmps257
  go_wp2
  go_ret
  exact ⟨rB (by unfold Pl.said;simp [h]),rfl⟩
 ·go_enter func257,ntmps257
  go_wp2
  go_ret
  exact ⟨rB (by unfold Pl.said;simp),rfl⟩
def qV (k:Int):Value:=.agg #[iv (Pl.need k),.func (.func (bif Pl.both k then 257 else 256)) #[] #[]]
theorem vG (k:Nat) (hk:k<16) (w:World):Calls prog 231 #[iv (k:Int)] w fun e w'=>e=.returned (qV k)∧Kept 0 0 w w':=by
 have hst:=zh
 rcases Pl.PD k hk with ⟨hE,hn,hb⟩|⟨hE,hn,hb⟩|⟨hE,hn,hb⟩|⟨hE,hn,hb⟩|⟨hE,hn,hb⟩|⟨hE,hn,hb⟩|⟨hE,hn,hb⟩|⟨hE,hn,hb⟩
 all_goals
  unfold qV
  rw [hn,hb]
  clear hn hb
  simp only [cond_true,cond_false]
  go_enter func231,ntmps231
  go_wp2_with (go_at_call 232;refine st (CE _ _) ?_;rw [hE])
  refine bodyPost_ret (v:=_) ?_ rfl ⟨rfl,?_⟩
  ·rw [aj rfl];go_simp
  ·exact kept_alloc _ _
theorem Gq (k j:Nat) (hk:k<16) (hj:j<32) (w:World):Calls prog 203 #[iv (k:Int),iv (j:Int)] w fun e w'=>e=.returned (.bool (Pl.tst k j))∧Kept 0 0 w w':=by
 have hst:=zh
 rw [←Pl.Ik k hk j hj]
 cases hb:Pl.both (k:Int)
 ·have hQ:qV k=.agg #[iv (Pl.need k),.func (.func 256) #[] #[]]:=by unfold qV;rw [hb];rfl
  go_enter func203,ntmps203
  go_wp2_with fail
  refine (vG k hk _).mono ?_
  rintro e9 W ⟨rfl,hk9⟩
  rw [hQ]
  have HK:=hide hk9
  clear hk9
  go_wp2_with (first|(go_at_call 256;refine st (isNone _ _) ?_)|(go_at_call 232;refine st (CE _ _) ?_))
  go_ret
  exact ⟨rfl,ah HK.o _⟩
 ·have hQ:qV k=.agg #[iv (Pl.need k),.func (.func 257) #[] #[]]:=by unfold qV;rw [hb];rfl
  go_enter func203,ntmps203
  go_wp2_with fail
  refine (vG k hk _).mono ?_
  rintro e9 W ⟨rfl,hk9⟩
  rw [hQ]
  have HK:=hide hk9
  clear hk9
  go_wp2_with (first|(go_at_call 257;refine st (Qp _ _) ?_)|(go_at_call 232;refine st (CE _ _) ?_))
  go_ret
  exact ⟨rfl,ah HK.o _⟩
theorem listOf (x0 x1 x2 x3:Int) (w:World) :
  Calls prog 97 #[.agg #[iv x0,iv x1,iv x2,iv x3]] w fun e w'=>∃g:Nat,e=.returned (.slice (some ⟨g,0,none⟩) 4 4)∧w.heap.size≤g∧Blk w' g (cellsOf [x0,x1,x2,x3]) 3∧Kept 0 0 w w':=
 (OB x0 x1 x2 x3 w).mono (fun e w' h=>⟨_,h.1,by omega,h.2⟩)
theorem bkS {w:World} {b:Nat} {r:Pl.Rg} {t:TypeId} (h:Blk w b (bkR r) t):w.cell? ⟨b,0,none⟩=some (iv (el r.xs 0))∧w.cell? ⟨b,1,none⟩=some (iv (el r.xs 1))∧w.cell? ⟨b,2,none⟩=some (iv (el r.xs 2))∧w.cell? ⟨b,3,none⟩=some (iv (el r.xs 3))∧w.cell? ⟨b,4,none⟩=some (iv (el r.ys 0))∧w.cell? ⟨b,5,none⟩=some (iv (el r.ys 1))∧w.cell? ⟨b,6,none⟩=some (iv (el r.ys 2))∧w.cell? ⟨b,7,none⟩=some (iv (el r.ys 3))∧w.cell? ⟨b,8,none⟩=some (iv r.o)∧w.cell? ⟨b,9,none⟩=some (iv r.p)∧w.cell? ⟨b,10,none⟩=some (iv r.f)∧w.cell? ⟨b,11,none⟩=some (iv r.m)∧w.cell? ⟨b,12,none⟩=some (.bool r.s)∧w.cell? ⟨b,13,none⟩=some (.bool r.t):=
 ⟨h.cell (i:=0) rfl,h.cell (i:=1) rfl,h.cell (i:=2) rfl,h.cell (i:=3) rfl,h.cell (i:=4) rfl,h.cell (i:=5) rfl,h.cell (i:=6) rfl,h.cell (i:=7) rfl,h.cell (i:=8) rfl,h.cell (i:=9) rfl,h.cell (i:=10) rfl,h.cell (i:=11) rfl,h.cell (i:=12) rfl,h.cell (i:=13) rfl⟩
theorem qU (r:Pl.Rg) (w:World) (f0:0≤r.f) (f1:r.f≤31) (m0:0≤r.m) (m1:r.m≤7) :
  Calls prog 93 #[.agg (bkR r)] w fun e w'=>e=.returned (iv (Pl.status r))∧Kept 0 0 w w':=by
 obtain ⟨s0,s1⟩:0≤Pl.fl1 r.s 256∧Pl.fl1 r.s 256≤256:=by cases r.s<;>simp [Pl.fl1]
 obtain ⟨t0,t1⟩:0≤Pl.fl1 r.t 512∧Pl.fl1 r.t 512≤512:=by cases r.t<;>simp [Pl.fl1]
 have w64:∀ {n:Int},-9223372036854775808≤n→n≤9223372036854775807→IntKind.i64.wrap n=n:=fun h0 h1=>by rw [IntKind.wrap_i64];omega
 have e1:IntKind.i64.wrap (r.m*32)=r.m*32:=w64 (by omega) (by omega)
 have e2:IntKind.i64.wrap (r.f+r.m*32)=r.f+r.m*32:=w64 (by omega) (by omega)
 have e3:IntKind.i64.wrap (r.f+r.m*32+Pl.fl1 r.s 256)=r.f+r.m*32+Pl.fl1 r.s 256:=w64 (by omega) (by omega)
 have e4:IntKind.i64.wrap (r.f+r.m*32+Pl.fl1 r.s 256+Pl.fl1 r.t 512)=r.f+r.m*32+Pl.fl1 r.s 256+Pl.fl1 r.t 512:=w64 (by omega) (by omega)
 clear w64
 have HK:=hide (kept_alloc w (.cells (bkR r) 85))
 have E:Hid (r.f+r.m*32+Pl.fl1 r.s 256+Pl.fl1 r.t 512=Pl.status r):=hide (by unfold Pl.status;omega)
 unfold bkR
 go_enter func93,ntmps93
 go_wp2_with fail
 go_quiet (first|(go_at_call 133;exact Calls.quiet_of_same (Ko _ _ _))|fail)
 go_wp2_with fail
 go_ret
 exact ⟨rI E.o,ax HK.o _⟩
theorem Bd {w:World} {b:Nat} {cs:Array Value} {t:TypeId} (h:Blk w b cs t):Blk w.drew b cs t:=h
theorem MI (r:Pl.Rg) (w:World) (lx:r.xs.length=4) (ly:r.ys.length=4) :
  Calls prog 59 #[.agg (bkR r)] w fun e w'=>∃(a' b':Option Addr) (ca' cb':Nat),e=.returned (.agg #[.slice a' r.xs.length ca',.slice b' r.ys.length cb',iv r.o,iv r.p,iv r.f,iv r.m,.bool r.s,.bool r.t])∧Au w' w.heap.size r a' b'∧Kept 0 0 w w':=by
 have LX:=hide lx
 have LY:=hide ly
 clear lx ly
 have B0:=hide ((Blk.new w (bkR r) 85).alloc (.cells #[.slice none 0 0,.slice none 0 0,iv 0,iv 0,iv 0,iv 0,.bool false,.bool false] 31))
 have R0:=Blk.new (w.alloc (.cells (bkR r) 85)) #[.slice none 0 0,.slice none 0 0,iv 0,iv 0,iv 0,iv 0,.bool false,.bool false] 31
 simp only [World.size_alloc] at R0
 replace R0:=hide R0
 have K0:=hide (ah (kept_alloc w (.cells (bkR r) 85)) (.cells #[.slice none 0 0,.slice none 0 0,iv 0,iv 0,iv 0,iv 0,.bool false,.bool false] 31))
 unfold bkR
 go_enter func59,ntmps59
 go_wp2_with fail
 obtain ⟨W,hW⟩:∃W:World,W=(w.alloc (.cells (bkR r) 85)).alloc (.cells #[.slice none 0 0,.slice none 0 0,iv 0,iv 0,iv 0,iv 0,.bool false,.bool false] 31):=⟨_,rfl⟩
 have hW2:(w.alloc (.cells #[iv (el r.xs 0),iv (el r.xs 1),iv (el r.xs 2),iv (el r.xs 3),iv (el r.ys 0),iv (el r.ys 1),iv (el r.ys 2),iv (el r.ys 3),iv r.o,iv r.p,iv r.f,iv r.m,.bool r.s,.bool r.t] 85)).alloc (.cells #[.slice none 0 0,.slice none 0 0,iv 0,iv 0,iv 0,iv 0,.bool false,.bool false] 31)=W:=hW.symm
 rw [←hW] at B0 R0 K0
 rw [hW2]
 clear hW hW2
 obtain ⟨c0,c1,c2,c3,c4,c5,c6,c7,c8,c9,c10,c11,c12,c13⟩:=bkS B0.o
 go_region_held3 (fun w'=>w'.cell? ⟨w.heap.size,0,none⟩=some (iv (el r.xs 0))∧w'.cell? ⟨w.heap.size,1,none⟩=some (iv (el r.xs 1))∧w'.cell? ⟨w.heap.size,2,none⟩=some (iv (el r.xs 2))∧w'.cell? ⟨w.heap.size,3,none⟩=some (iv (el r.xs 3))∧w'.cell? ⟨w.heap.size,4,none⟩=some (iv (el r.ys 0))∧w'.cell? ⟨w.heap.size,5,none⟩=some (iv (el r.ys 1))∧w'.cell? ⟨w.heap.size,6,none⟩=some (iv (el r.ys 2))∧w'.cell? ⟨w.heap.size,7,none⟩=some (iv (el r.ys 3))∧w'.cell? ⟨w.heap.size,8,none⟩=some (iv r.o)∧w'.cell? ⟨w.heap.size,9,none⟩=some (iv r.p)∧w'.cell? ⟨w.heap.size,10,none⟩=some (iv r.f)∧w'.cell? ⟨w.heap.size,11,none⟩=some (iv r.m)∧w'.cell? ⟨w.heap.size,12,none⟩=some (.bool r.s)∧w'.cell? ⟨w.heap.size,13,none⟩=some (.bool r.t)) (first|with_reducible exact bkS B4.o|with_reducible exact bkS B3.o|with_reducible exact bkS (Bd B0.o)|exact bkS ((((((((B4.o.other _ _ _ (by omega)).other _ _ _ (by omega)).other _ _ _ (by omega)).other _ _ _ (by omega)).other _ _ _ (by omega)).other _ _ _ (by omega)).other _ _ _ (by omega)).other _ _ _ (by omega)))
  (first|(go_at_call 97;have B4:=B3;clear B4;refine (listOf _ _ _ _ _).mono ?_;rintro e w4 ⟨g',rfl,hg4,hb4,kd⟩;have B4:=hide (B3.o.af kd);have R4:=hide (R3.o.af kd);have q0:=R4.o.cell (i:=0) rfl;have fq0:=R4.o.frozen 0;have q1:=R4.o.cell (i:=1) rfl;have fq1:=R4.o.frozen 1;have q2:=R4.o.cell (i:=2) rfl;have fq2:=R4.o.frozen 2;have q3:=R4.o.cell (i:=3) rfl;have fq3:=R4.o.frozen 3;have q4:=R4.o.cell (i:=4) rfl;have fq4:=R4.o.frozen 4;have q5:=R4.o.cell (i:=5) rfl;have fq5:=R4.o.frozen 5;have q6:=R4.o.cell (i:=6) rfl;have fq6:=R4.o.frozen 6;have q7:=R4.o.cell (i:=7) rfl;have fq7:=R4.o.frozen 7;have G4:=hide (G3.o.af kd);have H4:=hide hb4;have L4:=hide hg4;have K4:=hide (K3.o.trans kd);clear hg4 hb4 kd)|(go_at_call 97;refine (listOf _ _ _ _ _).mono ?_;rintro e w3 ⟨g,rfl,hg3,hb3,kd⟩;have k3:=cZ kd;have B3:=hide (B0.o.af k3);have R3:=hide (R0.o.af k3);have G3:=hide hb3;have L3:Hid (W.heap.size≤g):=hide hg3;have K3:=hide (K0.o.trans k3);clear hg3 hb3 kd k3))
 go_wp2_with fail
 have l0:=R0.o.lt
 have l3:=L3.o
 have l4:=L4.o
 have l5:=G3.o.lt
 have l6:=H4.o.lt
 have l7:=G4.o.lt
 have k0:=K0.o.size
 refine bodyPost_ret (v:=.agg #[.slice (some ⟨g,0,none⟩) 4 4,.slice (some ⟨g',0,none⟩) 4 4,iv r.o,iv r.p,iv r.f,iv r.m,.bool r.s,.bool r.t]) ?_ rfl ⟨some ⟨g,0,none⟩,some ⟨g',0,none⟩,4,4,?_,⟨.inr ⟨g,rfl,by omega,?_,?_⟩,.inr ⟨g',rfl,by omega,?_,?_⟩,?_⟩,?_⟩
 ·rw [aj rfl];go_simp
 ·rw [LX.o,LY.o]
 ·simpa using l7
 ·rw [list4 LX.o];exact jQ ((((((((G4.o.other _ _ _ (by omega)).other _ _ _ (by omega)).other _ _ _ (by omega)).other _ _ _ (by omega)).other _ _ _ (by omega)).other _ _ _ (by omega)).other _ _ _ (by omega)).other _ _ _ (by omega))
 ·simpa using l6
 ·rw [list4 LY.o];exact jQ ((((((((H4.o.other _ _ _ (by omega)).other _ _ _ (by omega)).other _ _ _ (by omega)).other _ _ _ (by omega)).other _ _ _ (by omega)).other _ _ _ (by omega)).other _ _ _ (by omega)).other _ _ _ (by omega))
 ·intro g2 h2 h3
  simp [blk] at h2 h3
  omega
 ·exact (ag (ag (ag (ag (ag (ag (ag (ag K4.o _ _ _ (.inr (by omega))) _ _ _ (.inr (by omega))) _ _ _ (.inr (by omega))) _ _ _ (.inr (by omega))) _ _ _ (.inr (by omega))) _ _ _ (.inr (by omega))) _ _ _ (.inr (by omega))) _ _ _ (.inr (by omega)))
namespace Pl
theorem WR {c:Mc} (h:GM c) {z q k s:Int} (hz:z=1∨z=2) (hq:okv z q=true) (s0:0≤s) (s1:s≤7) (k0:0≤k) (k1:k≤3):okv z (jg s z c.r.f q (k+1))=true:=by
 have g:=Cj hq h.g.f0 h.g.f1 s s0 s1
 have ft:=(qh g).2.2.2.2.2
 have ob:qM s z c.r.f q (k+1)=true:=by unfold qM cnt;rw [g];simp;omega
 have vb:=oZ (k:=s) ft (k+1).toNat
 unfold jg
 rw [if_pos ob]
 obtain ⟨v1,v2,v3,_⟩:=vb
 unfold okv;simp only [Bool.and_eq_true,Bool.or_eq_true,decide_eq_true_eq];exact ⟨v1,v2,v3⟩
end Pl
theorem Ud (w:World) (lo b g:Nat) (c:Pl.Mc) (h:Bool) (op z r m k e s:Int) (hC:CAt w lo b g c h) (G:Pl.GM c) (B:Pl.InB ⟨op,z,r,m,k,e,s⟩) :
  Calls prog 167 #[.pointer (some ⟨b,0,none⟩),.agg (inA op z r m k e s)] w fun e' w'=>e'=.returned (.tuple #[])∧CAt w' lo b g ((c.put z r (Pl.jg s z c.r.f (c.low z r) (k+1))).aF (Pl.oL s z c.r.f (c.low z r) (k+1))) h∧Kept b (b+1) w w':=by
 obtain ⟨l0,l1,l2,l3,l4⟩:=hC.lt
 have HG:=hide G
 have HB:=hide B
 have K0:=hide (kept_alloc w (.cells (inA op z r m k e s) 109))
 have C0:=hide (hC.alloc (.cells (inA op z r m k e s) 109))
 have A0:=hide (Blk.new w (inA op z r m k e s) 109)
 obtain ⟨X,hX⟩:∃X:World,w.alloc (.cells (inA op z r m k e s) 109)=X:=⟨_,rfl⟩
 rw [hX] at K0 C0 A0
 have sX:w.heap.size<X.heap.size:=A0.o.lt
 have p:=A0.o.all
 clear hC G B
 have OQ:Pl.okv z (c.low z r)=true:=Pl.fP HG.o HB.o.z HB.o.r0 HB.o.r1
 have OV:=hide (Pl.WR (s:=s) (k:=k) HG.o HB.o.z OQ HB.o.s0 HB.o.s1 HB.o.k0 HB.o.k1)
 obtain ⟨Q,hQ⟩:∃Q,Q=c.low z r:=⟨_,rfl⟩
 rw [←hQ] at OV OQ ⊢
 have tq:=Pl.aQ OQ
 have kb0:0≤k:=HB.o.k0
 have kb1:k≤3:=HB.o.k1
 have ew:IntKind.i64.wrap (k+1)=k+1:=by rw [IntKind.wrap_i64];omega
 obtain ⟨V,hV⟩:∃V,V=Pl.jg s z c.r.f Q (k+1):=⟨_,rfl⟩
 obtain ⟨F,hF⟩:∃F,F=Pl.oL s z c.r.f Q (k+1):=⟨_,rfl⟩
 rw [←hV] at OV ⊢
 rw [←hF]
 have HQ:=hide hQ
 have HV:=hide hV
 have HF:=hide hF
 have W6:W64 Q:=⟨by omega,by omega⟩
 clear hQ hV hF OQ tq
 go_enter func167,ntmps167
 go_wp2_with fail
 clear hX p
 obtain ⟨u0,u1,u2,u3,u4,u5,u6⟩:=A0.o.c7
 have u10:=C0.o.cF
 go_region_held3 (fun w'=>w'.cell? ⟨w.heap.size,0,none⟩=some (iv op)∧w'.cell? ⟨w.heap.size,1,none⟩=some (iv z)∧w'.cell? ⟨w.heap.size,2,none⟩=some (iv r)∧w'.cell? ⟨w.heap.size,3,none⟩=some (iv m)∧w'.cell? ⟨w.heap.size,4,none⟩=some (iv k)∧w'.cell? ⟨w.heap.size,5,none⟩=some (iv e)∧w'.cell? ⟨w.heap.size,6,none⟩=some (iv s)∧w'.cell? ⟨b,10,none⟩=some (iv c.r.f)) (first|with_reducible exact and7 A2.o.c7 C2.o.cF|with_reducible exact and7 A1.o.c7 C1.o.cF|exact and7 (show Blk _ _ _ _ from A0.o).c7 C0.o.drew.cF)
  (first|(go_at_call 202;have z9:=C1;refine (NK s z c.r.f Q (k+1) _ W6).mono ?_;rintro e9 W2 ⟨rfl,b2⟩;rw [←HV.o,←HF.o];have k2:=nS b2;have C2:=hide (C1.o.any k2);have A2:=hide (A1.o.af k2);have K2:=hide (K1.o.trans k2);clear b2 k2)|(go_at_call 194;refine (nY _ lo b g c h z r C0.o.drew HB.o.z HB.o.r0 HB.o.r1).mono ?_;rintro e9 W1 ⟨rfl,kd⟩;rw [←HQ.o];have k1:=cZ kd;have C1:=hide (C0.o.any k1);have A1:=hide (A0.o.af k1);have K1:=hide (K0.o.trans k1);clear kd k1))
 clear u0 u1 u2 u3 u4 u5 u6 u10
 go_wp2_with fail
 have u1:=A2.o.cell (i:=1) rfl
 have u2:=A2.o.cell (i:=2) rfl
 go_region_held3 (fun w'=>w'.cell? ⟨w.heap.size,1,none⟩=some (iv z)∧w'.cell? ⟨w.heap.size,2,none⟩=some (iv r)) (first|with_reducible exact ⟨A3.o.cell (i:=1) rfl,A3.o.cell (i:=2) rfl⟩|exact ⟨(show Blk _ _ _ _ from A2.o).cell (i:=1) rfl,(show Blk _ _ _ _ from A2.o).cell (i:=2) rfl⟩)
  (first|(go_at_call 195;refine (LQ _ lo b g c h z r V C2.o.drew HG.o.g HB.o.r0 HB.o.r1 HB.o.z OV.o).mono ?_;rintro e9 W3 ⟨rfl,hc3,kd⟩;have k3:=cZ kd;have C3:=hide hc3;have A3:=hide (A2.o.kept k3 (by omega));have K3:=hide (K2.o.any.trans k3);clear hc3 kd k3))
 have cf:=C3.o.cF
 have cz:=C3.o.fz
 go_wp2_with fail
 go_end0
 exact ⟨rfl,C3.o.aF F,ag K3.o _ _ _ (.inl ⟨by omega,by omega⟩)⟩
theorem CP (k j:Int) (k0:0≤k) (k1:k<16) (j0:0≤j) (j1:j<32) (w:World):Calls prog 203 #[iv k,iv j] w fun e w'=>e=.returned (.bool (Pl.tst k j))∧Kept 0 0 w w':=by
 obtain ⟨n,rfl⟩:∃n:Nat,k=(n:Int):=⟨k.toNat,by omega⟩
 obtain ⟨m,rfl⟩:∃m:Nat,j=(m:Int):=⟨j.toNat,by omega⟩
 exact Gq n m (by omega) (by omega) w
theorem Qd (w:World) (lo b g:Nat) (c:Pl.Mc) (h:Bool) (op z r m k e s:Int) (hC:CAt w lo b g c h) (G:Pl.GM c) (B:Pl.InB ⟨op,z,r,m,k,e,s⟩) (hr:r≤1) :
  Calls prog 168 #[.pointer (some ⟨b,0,none⟩),.agg (inA op z r m k e s)] w fun e' w'=>e'=.returned (.tuple #[])∧CAt w' lo b g (bif Pl.tst (s+8*r) c.r.f then c.aK ((c.r.p-2+e)%65536) else c) h∧Kept b (b+1) w w':=by
 obtain ⟨l0,l1,l2,l3,l4⟩:=hC.lt
 have HG:=hide G
 have HB:=hide B
 have K0:=hide (kept_alloc w (.cells (inA op z r m k e s) 109))
 have C0:=hide (hC.alloc (.cells (inA op z r m k e s) 109))
 have A0:=hide (Blk.new w (inA op z r m k e s) 109)
 obtain ⟨X,hX⟩:∃X:World,w.alloc (.cells (inA op z r m k e s) 109)=X:=⟨_,rfl⟩
 rw [hX] at K0 C0 A0
 have sX:w.heap.size<X.heap.size:=A0.o.lt
 have p:=A0.o.all
 clear hC G B
 have r0:0≤r:=HB.o.r0
 have s0:0≤s:=HB.o.s0
 have s1:s≤7:=HB.o.s1
 have e0:0≤e:=HB.o.e0
 have e1:e≤65535:=HB.o.e1
 have f0:=HG.o.g.f0
 have f1:=HG.o.g.f1
 have p0:=HG.o.p0
 have p1:=HG.o.p1
 have ew1:IntKind.i64.wrap (8*r)=8*r:=by rw [IntKind.wrap_i64];omega
 have ew2:IntKind.i64.wrap (s+8*r)=s+8*r:=by rw [IntKind.wrap_i64];omega
 have ew3:IntKind.i64.wrap (c.r.p-2)=c.r.p-2:=by rw [IntKind.wrap_i64];omega
 have ew4:IntKind.i64.wrap (c.r.p-2+e)=c.r.p-2+e:=by rw [IntKind.wrap_i64];omega
 go_enter func168,ntmps168
 go_wp2_with fail
 clear hX p
 obtain ⟨u0,u1,u2,u3,u4,u5,u6⟩:=A0.o.c7
 have u10:=C0.o.cF
 go_region_held3 (fun w'=>w'.cell? ⟨w.heap.size,0,none⟩=some (iv op)∧w'.cell? ⟨w.heap.size,1,none⟩=some (iv z)∧w'.cell? ⟨w.heap.size,2,none⟩=some (iv r)∧w'.cell? ⟨w.heap.size,3,none⟩=some (iv m)∧w'.cell? ⟨w.heap.size,4,none⟩=some (iv k)∧w'.cell? ⟨w.heap.size,5,none⟩=some (iv e)∧w'.cell? ⟨w.heap.size,6,none⟩=some (iv s)∧w'.cell? ⟨b,10,none⟩=some (iv c.r.f)) (first|with_reducible exact and7 A1.o.c7 C1.o.cF|exact and7 (show Blk _ _ _ _ from A0.o).c7 C0.o.drew.cF)
  (first|(go_at_call 203;refine (CP _ _ (by omega) (by omega) f0 (by omega) _).mono ?_;rintro e9 W1 ⟨rfl,kd⟩;have k1:=cZ kd;have C1:=hide (C0.o.any k1);have A1:=hide (A0.o.af k1);have K1:=hide (K0.o.trans k1);clear kd k1))
 clear u0 u1 u2 u3 u4 u5 u6 u10
 have q9:=C1.o.cP
 have qz:=C1.o.fz
 have q5:=A1.o.cell (i:=5) rfl
 cases ht:Pl.tst (s+8*r) c.r.f
 ·go_wp2_with fail
  go_end0
  exact ⟨rfl,by rw [ht];exact C1.o,K1.o.any⟩
 ·go_wp2_with fail
  go_region_with (first|(go_at_call 117;refine (iw _ _).mono ?_;rintro e9 w' ⟨rfl,hw⟩;have hw2:=hw.symm;clear hw;subst hw2))
  all_goals
   go_end0
   exact ⟨rfl,by rw [ht];exact (C1.o.aK _).drew,ae (ag K1.o.any _ _ _ (.inl ⟨by omega,by omega⟩))⟩
theorem CAt.Ap {w:World} {lo b g:Nat} {c:Pl.Mc} {h:Bool} (a:CAt w lo b g c h):w.cell? ⟨b,0,none⟩=some (iv (el c.r.xs 0))∧w.cell? ⟨b,1,none⟩=some (iv (el c.r.xs 1))∧w.cell? ⟨b,2,none⟩=some (iv (el c.r.xs 2))∧w.cell? ⟨b,3,none⟩=some (iv (el c.r.xs 3))∧w.cell? ⟨b,4,none⟩=some (iv (el c.r.ys 0))∧w.cell? ⟨b,5,none⟩=some (iv (el c.r.ys 1))∧w.cell? ⟨b,6,none⟩=some (iv (el c.r.ys 2))∧w.cell? ⟨b,7,none⟩=some (iv (el c.r.ys 3))∧w.cell? ⟨b,8,none⟩=some (iv c.r.o)∧w.cell? ⟨b,9,none⟩=some (iv c.r.p)∧w.cell? ⟨b,10,none⟩=some (iv c.r.f)∧w.cell? ⟨b,11,none⟩=some (iv c.r.m)∧w.cell? ⟨b,12,none⟩=some (.bool c.r.s)∧w.cell? ⟨b,13,none⟩=some (.bool c.r.t):=
 ⟨a.cX (by omega),a.cX (by omega),a.cX (by omega),a.cX (by omega),a.cY (k:=0) (by omega),a.cY (k:=1) (by omega),a.cY (k:=2) (by omega),a.cY (k:=3) (by omega),a.cO,a.cP,a.cF,a.cM,a.cS,a.cT⟩
theorem vg (T:TypeId) (U:Value) (z a:Int) (w:World):(Instr.field 176 (.agg #[.iface T U,iv z,iv a]) 2).run prog w=.ok (iv a) w:=by kernel_rfl
def Pl.Mc.jp (c:Pl.Mc) (x:Pl.In):Pl.Mc:=bif x.s==1 then (bif ((c.slot x.z x.m x.k x.e).push c.r.p).fine then ((c.slot x.z x.m x.k x.e).push c.r.p).aK (c.readA x.z x.m x.k x.e) else (c.slot x.z x.m x.k x.e).push c.r.p) else (c.slot x.z x.m x.k x.e).aK (c.readA x.z x.m x.k x.e)
theorem Pl.H6 (c:Pl.Mc) (z m k e:Int):(c.slot z m k e).r.p=c.r.p:=by
 unfold Pl.Mc.slot
 cases Pl.Mc.gU m
 ·exact Pl.rF c.r z m k e
 ·rfl
theorem Pl.Sz (c:Pl.Mc) (v:Int):(c.push v).f=Pl.Mc.fE c.f 2 2 c.spA:=by
 unfold Pl.Mc.push
 cases (c.acc 2 2 c.spA v).fine<;>rfl
theorem Pl.Oa {c E:Pl.Mc} {v:Int} (hf:c.f=Pl.aI) (hE:E=c.push v) (h:(E.f.v != 0)=false):E.f=Pl.aI:=by
 rw [hE,Pl.Sz,hf] at h ⊢
 exact (Pl.nZ h).2
theorem Uo (w:World) (lo b g:Nat) (c:Pl.Mc) (h:Bool) (op z r m k e:Int) (hC:CAt w lo b g c h) (G:Pl.GM c) (hf:c.f=Pl.aI) (B:Pl.InB ⟨op,z,r,m,k,e,0⟩) :
  Calls prog 169 #[.pointer (some ⟨b,0,none⟩),.agg (inA op z r m k e 0)] w fun e' w'=>∃g',e'=.returned (.agg (ftC (c.jp ⟨op,z,r,m,k,e,0⟩).f))∧CAt w' lo b g' (c.jp ⟨op,z,r,m,k,e,0⟩) h∧Since w b (b+1) g w' g':=by
 have HB:=hide B
 clear B
 obtain ⟨l0,l1,l2,l3,l4⟩:=hC.lt
 have HG:=hide G
 obtain ⟨X,hX,K0,C0,A0,R0,sX⟩:=hC.jl op z r m k e 0
 have p:=A0.o.all
 clear hC G
 obtain ⟨D,hD⟩:∃D,D=c.slot z m k e:=⟨_,rfl⟩
 have GD:Hid (Pl.GM D):=hide (by rw [hD];exact HG.o.slot HB.o.k0 HB.o.k1)
 have DF:Hid (D.f=Pl.aI):=hide (by rw [hD];unfold Pl.Mc.slot;cases Pl.Mc.gU m<;>exact hf)
 have DP:Hid (D.r.p=c.r.p):=hide (by rw [hD];exact Pl.H6 c z m k e)
 obtain ⟨a,ha⟩:∃a,a=c.readA z m k e:=⟨_,rfl⟩
 have HA:=hide ha
 obtain ⟨T,U,hW⟩:=lG m k e
 have HW:=hide hW
 have HD:=hide hD
 have sa:=vg T U z a
 have ET:Hid (c.jp ⟨op,z,r,m,k,e,0⟩=D.aK a):=hide (by rw [hD,ha];rfl)
 clear ha hW hD
 have rr:=fun W (R:Blk W (w.heap.size+1) ftZ 49)=>(R.other b 9 (iv a) (by omega)).all
 have rz:=fun W (R:Blk W (w.heap.size+1) ftZ 49)=>(R.other b 9 (iv a) (by omega)).fz
 go_enter func169,ntmps169
 go_wp2_with (go_at_call 166;refine (rZ _ lo b g c h ⟨op,z,r,m,k,e,0⟩ C0.o HG.o HB.o).mono ?_;rintro e9 W1 ⟨rfl,hc,hk⟩;rw [←HA.o,HW.o];rw [←HD.o] at hc;have C1:=hide hc;have A1:=hide (A0.o.kept hk (by omega));have R1:=hide (R0.o.kept hk (by omega));have S1:=hide (((Since.refl w b (b+1) g).any K0.o).ai hk (Nat.le_refl _) (Nat.le_refl _));have p1:=A1.o.all;have r1:=R1.o.all;have rf1:=R1.o.fz;have q9:W1.cell? ⟨b,9,none⟩=some (iv c.r.p):=(by have q:=hc.cP;rw [DP.o] at q;exact q);have qz:=hc.fz;have r2:=rr _ R1.o;have rz2:=rz _ R1.o;clear hc hk)
 have KR:=(((((ak (W1.setCell ⟨b,9,none⟩ (iv a)) (w.heap.size+1) 0 (iv 0)).one 1 (iv 0)).one 2 (iv 0)).one 3 (iv 0)).one 4 (.bool false))
 refine bodyPost_ret (v:=.agg ftZ) ?_ rfl ⟨g,?_,?_,(S1.o.set b 9 (iv a) (.inl (by omega))).mine KR (by omega)⟩
 ·rw [aj rfl];go_simp
 ·rw [ET.o,show (D.aK a).f=Pl.aI from DF.o];rfl
 ·rw [ET.o];exact ((C1.o.aK a).kept KR (by omega) (by omega))
theorem Un (w:World) (lo b g:Nat) (c:Pl.Mc) (h:Bool) (op z r m k e:Int) (hC:CAt w lo b g c h) (G:Pl.GM c) (hf:c.f=Pl.aI) (B:Pl.InB ⟨op,z,r,m,k,e,1⟩) :
  Calls prog 169 #[.pointer (some ⟨b,0,none⟩),.agg (inA op z r m k e 1)] w fun e' w'=>∃g',e'=.returned (.agg (ftC (c.jp ⟨op,z,r,m,k,e,1⟩).f))∧CAt w' lo b g' (c.jp ⟨op,z,r,m,k,e,1⟩) h∧Since w b (b+1) g w' g':=by
 have HB:=hide B
 clear B
 obtain ⟨l0,l1,l2,l3,l4⟩:=hC.lt
 have HG:=hide G
 obtain ⟨X,hX,K0,C0,A0,R0,sX⟩:=hC.jl op z r m k e 1
 have p:=A0.o.all
 clear hC G
 obtain ⟨D,hD⟩:∃D,D=c.slot z m k e:=⟨_,rfl⟩
 have GD:Hid (Pl.GM D):=hide (by rw [hD];exact HG.o.slot HB.o.k0 HB.o.k1)
 have DF:Hid (D.f=Pl.aI):=hide (by rw [hD];unfold Pl.Mc.slot;cases Pl.Mc.gU m<;>exact hf)
 have DP:Hid (D.r.p=c.r.p):=hide (by rw [hD];exact Pl.H6 c z m k e)
 obtain ⟨a,ha⟩:∃a,a=c.readA z m k e:=⟨_,rfl⟩
 have HA:=hide ha
 obtain ⟨T,U,hW⟩:=lG m k e
 have HW:=hide hW
 have HD:=hide hD
 have sa:=vg T U z a
 obtain ⟨E,hE⟩:∃E,E=D.push c.r.p:=⟨_,rfl⟩
 obtain ⟨F,hF⟩:∃F,F=E.f:=⟨_,rfl⟩
 have ET:Hid (c.jp ⟨op,z,r,m,k,e,1⟩=bif !(F.v != 0) then E.aK a else E):=hide (by
  show (bif ((c.slot z m k e).push c.r.p).fine then ((c.slot z m k e).push c.r.p).aK (c.readA z m k e) else (c.slot z m k e).push c.r.p)=_
  rw [←hD,←ha,←hE,hF];unfold Pl.Mc.fine;simp [bne])
 have HE:=hide hE
 have HF:=hide hF
 have HP0:=hide HG.o.p0
 have HP1:=hide HG.o.p1
 clear ha hW hD hE hF
 go_enter func169,ntmps169
 go_wp2_with (first|(go_at_call 95;have z9:=C1;refine (WJ _ lo b g D h c.r.p C1.o GD.o DF.o HP0.o HP1.o).mono ?_;rintro e9 W2 ⟨g',rfl,hc,hs⟩;rw [←HE.o] at hc ⊢;rw [←HF.o];unfold ftC;have C2:=hide (hc.alloc (.cells (ftA F) 49));have A2:=hide ((hs.blk A1.o (by omega) (by omega)).alloc (.cells (ftA F) 49));have R2:=hide ((hs.blk R1.o (by omega) (by omega)).alloc (.cells (ftA F) 49));have S2:=hide ((S1.o.trans hs).alloc (.cells (ftA F) 49));have L2:=hide (Blk.new W2 (ftA F) 49);have z2:=hs.size;have n2:=hs.ne (b:=w.heap.size+1) R1.o.lt (by omega);clear hc hs)|(go_at_call 166;refine (rZ _ lo b g c h ⟨op,z,r,m,k,e,1⟩ C0.o HG.o HB.o).mono ?_;rintro e9 W1 ⟨rfl,hc,hk⟩;rw [←HA.o,HW.o];rw [←HD.o] at hc;have C1:=hide hc;have A1:=hide (A0.o.kept hk (by omega));have R1:=hide (R0.o.kept hk (by omega));have S1:=hide (((Since.refl w b (b+1) g).any K0.o).ai hk (Nat.le_refl _) (Nat.le_refl _));have p1:=A1.o.all;have r1:=R1.o.all;have rf1:=R1.o.fz;have q9:W1.cell? ⟨b,9,none⟩=some (iv c.r.p):=(by have q:=hc.cP;rw [DP.o] at q;exact q);have qz:=hc.fz;clear hc hk))
 refine (fV F _).mono ?_
 rintro e9 W4 ⟨rfl,kf⟩
 have C4:=hide (C2.o.any kf)
 have A4:=hide (A2.o.af kf)
 have R4:=hide (R2.o.af kf)
 have L4:=hide (L2.o.af kf)
 have S4:=hide (S2.o.any kf)
 have p4:=A4.o.all
 have q4:=L4.o.all
 have r4:=R4.o.all
 have rf4:=R4.o.fz
 clear kf
 have qa:=C4.o.cP
 have qb:=C4.o.fz
 have r5:=(R4.o.other b 9 (iv a) (by omega)).all
 have rf5:=(R4.o.other b 9 (iv a) (by omega)).fz
 clear hX p p1 q9 qz r1 rf1
 cases hv:(F.v != 0)
 ·have E1:Hid (c.jp ⟨op,z,r,m,k,e,1⟩=E.aK a):=hide (by rw [ET.o,hv];rfl)
  have EF:Hid (E.f=Pl.aI):=hide (Pl.Oa DF.o HE.o (by rw [←HF.o];exact hv))
  go_wp2_with fail
  have KR:=(((((ak (W4.setCell ⟨b,9,none⟩ (iv a)) (w.heap.size+1) 0 (iv 0)).one 1 (iv 0)).one 2 (iv 0)).one 3 (iv 0)).one 4 (.bool false))
  refine bodyPost_ret (v:=.agg ftZ) ?_ rfl ⟨g',?_,?_,(S4.o.set b 9 (iv a) (.inl (by omega))).mine KR (by omega)⟩
  ·rw [aj rfl];go_simp
  ·rw [E1.o,show (E.aK a).f=Pl.aI from EF.o];rfl
  ·rw [E1.o];exact ((C4.o.aK a).kept KR (by omega) (by omega))
 ·have E1:Hid (c.jp ⟨op,z,r,m,k,e,1⟩=E):=hide (by rw [ET.o,hv];rfl)
  go_wp2_with fail
  have KR:=(((((ak W4 (w.heap.size+1) 0 (iv F.v)).one 1 (iv F.pc)).one 2 (iv F.ad)).one 3 (iv F.wo)).one 4 (.bool F.wr))
  refine bodyPost_ret (v:=.agg (ftA F)) ?_ rfl ⟨g',?_,?_,(S4.o).mine KR (by omega)⟩
  ·rw [aj rfl];go_simp
  ·rw [E1.o,←HF.o];rfl
  ·rw [E1.o];exact ((C4.o).kept KR (by omega) (by omega))
namespace Pl
theorem yZ {r:Rg} (h:Good r) {r':Rg} (h0:r'.s=r.s) (h1:r'.t=r.t) (h2:r'.m=r.m) (h3:r'.f=r.f):bQ r' (status r)=r':=by
 have a:=h.f0;have b:=h.f1;have c:=h.m0;have d:=h.m1
 have e1:dK (status r)=r.s:=by unfold dK status fl1;cases r.s<;>cases r.t<;>simp<;>omega
 have e2:fG (status r)=r.t:=by unfold fG status fl1;cases r.s<;>cases r.t<;>simp<;>omega
 have e3:status r/32%8=r.m:=by unfold status fl1;cases r.s<;>cases r.t<;>simp<;>omega
 have e4:status r%32=r.f:=by unfold status fl1;cases r.s<;>cases r.t<;>simp<;>omega
 unfold bQ
 rw [e1,e2,e3,e4,if_pos h0.symm]
 obtain ⟨xs,ys,o,p,f,m,s,t⟩:=r'
 simp only at h0 h1 h2 h3
 rw [h0,h1,h2,h3]
theorem VH (c:Mc):c.pop.f=Mc.fE c.f 1 2 (el c.r.ys 3):=by
 unfold Mc.pop
 cases (c.acc 1 2 (el c.r.ys 3) 0).fine<;>rfl
theorem Bg {c E:Mc} (hf:c.f=aI) (hE:E=c.pop) (h:(E.f.v != 0)=false):E.f=aI:=by
 rw [hE,VH,hf] at h ⊢
 exact (nZ h).2
def Mc.cb0 (c:Mc):Mc:=bif c.pop.fine then (c.pop.aK c.eu).dB (bQ (c.pop.aK c.eu).r (status c.r)) else c.pop.aK c.eu
def Mc.cb1 (c:Mc):Mc:=bif c.pop.fine then (bif c.pop.pop.fine then (c.pop.pop.aK c.pop.eu).dB (bQ (c.pop.pop.aK c.pop.eu).r (c.eu%1024)) else c.pop.pop.aK c.pop.eu) else c.pop
end Pl
theorem Ul (w:World) (lo b g:Nat) (c:Pl.Mc) (h:Bool) (op z r m k e:Int) (hC:CAt w lo b g c h) (G:Pl.GM c) (B:Pl.InB ⟨op,z,r,m,k,e,0⟩) (he:e≤1023) :
  Calls prog 172 #[.pointer (some ⟨b,0,none⟩),.agg (inA op z r m k e 0)] w fun e' w'=>e'=.returned (.tuple #[])∧CAt w' lo b g (c.dB (Pl.bQ c.r e)) h∧Kept b (b+1) w w':=by
 obtain ⟨l0,l1,l2,l3,l4⟩:=hC.lt
 have HG:=hide G
 have HB:=hide B
 have K0:=hide (kept_alloc w (.cells (inA op z r m k e 0) 109))
 have C0:=hide (hC.alloc (.cells (inA op z r m k e 0) 109))
 have A0:=hide (Blk.new w (inA op z r m k e 0) 109)
 obtain ⟨X,hX⟩:∃X:World,w.alloc (.cells (inA op z r m k e 0) 109)=X:=⟨_,rfl⟩
 rw [hX] at K0 C0 A0
 have sX:w.heap.size<X.heap.size:=A0.o.lt
 have p:=A0.o.all
 clear hC G B
 have e0:0≤e:=HB.o.e0
 go_enter func172,ntmps172
 go_wp2_with fail
 clear hX p
 have u5:=A0.o.cell (i:=5) rfl
 go_region_held3 (fun w'=>w'.cell? ⟨w.heap.size,5,none⟩=some (iv e)) (first|with_reducible exact A1.o.cell (i:=5) rfl|exact (show Blk _ _ _ _ from A0.o).cell (i:=5) rfl)
  (first|(go_at_call 92;refine (Em _ lo b g c h e C0.o.drew HG.o.g e0 he).mono ?_;rintro e9 W1 ⟨rfl,hc,kd⟩;have k1:=cZ kd;have C1:=hide hc;have A1:=hide (A0.o.kept k1 (by omega));have K1:=hide (K0.o.any.trans k1);clear hc kd k1))
 go_wp2_with fail
 first|go_end0|refine bodyPost_ret (results_none rfl _ _ _) rfl ?_
 exact ⟨rfl,C1.o,K1.o⟩
theorem Uk (w:World) (lo b g:Nat) (c:Pl.Mc) (h:Bool) (op z r m k e:Int) (hC:CAt w lo b g c h) (G:Pl.GM c) (B:Pl.InB ⟨op,z,r,m,k,e,1⟩) :
  Calls prog 172 #[.pointer (some ⟨b,0,none⟩),.agg (inA op z r m k e 1)] w fun e' w'=>e'=.returned (.tuple #[])∧CAt w' lo b g (c.dB {c.r with xs:=c.r.xs.set r.toNat (Pl.status c.r)}) h∧Kept b (b+1) w w':=by
 obtain ⟨l0,l1,l2,l3,l4⟩:=hC.lt
 have HG:=hide G
 have HB:=hide B
 have K0:=hide (kept_alloc w (.cells (inA op z r m k e 1) 109))
 have C0:=hide (hC.alloc (.cells (inA op z r m k e 1) 109))
 have A0:=hide (Blk.new w (inA op z r m k e 1) 109)
 obtain ⟨X,hX⟩:∃X:World,w.alloc (.cells (inA op z r m k e 1) 109)=X:=⟨_,rfl⟩
 rw [hX] at K0 C0 A0
 have sX:w.heap.size<X.heap.size:=A0.o.lt
 have p:=A0.o.all
 clear hC G B
 obtain ⟨n,rfl⟩:∃n:Nat,r=(n:Int):=⟨r.toNat,by have:0≤r:=HB.o.r0;omega⟩
 have hn:n<4:=by have:(n:Int)≤3:=HB.o.r1;omega
 have i0:(0:Int)≤(n:Int):=by omega
 have i1:(n:Int)<4:=by omega
 go_enter func172,ntmps172
 go_wp2_with fail
 clear hX p
 have u2:=A0.o.cell (i:=2) rfl
 obtain ⟨v0,v1,v2,v3,v4,v5,v6,v7,v8,v9,v10,v11,v12,v13⟩:=C0.o.Ap
 go_region_with (first|(go_at_call 93;refine (qU c.r _ HG.o.g.f0 HG.o.g.f1 HG.o.g.m0 HG.o.g.m1).mono ?_;rintro e9 W1 ⟨rfl,kd⟩;have k1:=cZ kd;have C1:=hide (C0.o.any k1);have K1:=hide (K0.o.trans k1);have q1:=C1.o.cX hn;have qz:=C1.o.fz;have u2':=(A0.o.af k1).cell (i:=2) rfl;clear kd k1))
 all_goals
  go_wp2_with fail
  first|go_end0|refine bodyPost_ret (results_none rfl _ _ _) rfl ?_
  exact ⟨rfl,C1.o.zk HG.o.g.d4 hn _,ag K1.o.any _ _ _ (.inl ⟨by omega,by omega⟩)⟩
theorem UE (w:World) (lo b g:Nat) (c:Pl.Mc) (h:Bool) (op z r m k e:Int) (hC:CAt w lo b g c h) (G:Pl.GM c) (hf:c.f=Pl.aI) :
  Calls prog 204 #[.pointer (some ⟨b,0,none⟩),.agg (inA op z r m k e 0)] w fun e' w'=>∃g',e'=.returned (.agg (ftC c.cb0.f))∧CAt w' lo b g' (c.cb0) h∧Since w b (b+1) g w' g':=by
 obtain ⟨l0,l1,l2,l3,l4⟩:=hC.lt
 have HG:=hide G
 obtain ⟨X,hX,K0,C0,A0,R0,sX⟩:=hC.jl op z r m k e 0
 have p:=A0.o.all
 clear hC G
 obtain ⟨ST,hST⟩:∃x,x=Pl.status c.r:=⟨_,rfl⟩
 have st:=Pl.xg HG.o.g
 rw [←hST] at st
 obtain ⟨st0,st1⟩:=st
 obtain ⟨E,hE⟩:∃E,E=c.pop:=⟨_,rfl⟩
 obtain ⟨V,hV⟩:∃V,V=c.eu:=⟨_,rfl⟩
 obtain ⟨F,hF⟩:∃F,F=E.f:=⟨_,rfl⟩
 have vb:=Pl.kM HG.o
 rw [←hV] at vb
 have GE:Hid (Pl.GM (E.aK V)):=hide (by have q:=HG.o.pop;rw [←hE] at q;exact q.aK vb.1 vb.2)
 have ET:Hid (c.cb0=bif !(F.v != 0) then (E.aK V).dB (Pl.bQ (E.aK V).r ST) else E.aK V):=hide (by
  unfold Pl.Mc.cb0
  rw [←hE,←hV,←hST,hF];unfold Pl.Mc.fine;simp [bne])
 have HS:=hide hST
 have HE:=hide hE
 have HV:=hide hV
 have HF:=hide hF
 have er:ST%1024=ST:=by omega
 have er2:ST.tmod 1024=ST:=by rw [Int.tmod_eq_emod_of_nonneg st0];exact er
 clear hST hE hV hF vb
 obtain ⟨v0,v1,v2,v3,v4,v5,v6,v7,v8,v9,v10,v11,v12,v13⟩:=C0.o.Ap
 go_enter func204,ntmps204
 go_wp2_with (first|(go_at_call 233;have z9:=C1;refine (Uh _ lo b g c h C1.o HG.o hf).mono ?_;rintro e9 W2 ⟨g',rfl,hc,hs⟩;rw [←HE.o] at hc ⊢;rw [←HV.o,←HF.o];unfold ftC;have C2:=hide hc;have A2:=hide (hs.blk A1.o (by omega) (by omega));have R2:=hide (hs.blk R1.o (by omega) (by omega));have L2:=hide (hs.blk L1.o (by omega) (by omega));have S2:=hide (((Since.refl w b (b+1) g).any K1.o).trans hs);have z2:=hs.size;have n2:=hs.ne (b:=w.heap.size+1) R1.o.lt (by omega);have m2:=hs.ne (b:=W1.heap.size) L1.o.lt (by omega);have o2:=hs.ne (b:=w.heap.size) A1.o.lt (by omega);have c9:=hc.cP;have cz:=hc.fz;have lb:=((hs.blk L1.o (by omega) (by omega)).other b 9 (iv V) (by omega)).all;have lf:=((hs.blk L1.o (by omega) (by omega)).other b 9 (iv V) (by omega)).fz;clear hc hs)|(go_at_call 93;refine (qU c.r _ HG.o.g.f0 HG.o.g.f1 HG.o.g.m0 HG.o.g.m1).mono ?_;rintro e9 W1 ⟨rfl,k1⟩;rw [←HS.o];have C1:=hide ((C0.o.any k1).alloc (.cells ftZ 49));have A1:=hide ((A0.o.af k1).alloc (.cells ftZ 49));have R1:=hide ((R0.o.af k1).alloc (.cells ftZ 49));have K1:=hide (ah (K0.o.trans k1) (.cells ftZ 49));have L1:=hide (Blk.new W1 ftZ 49);have s1:=k1.size;have p1:=A1.o.all;have l1a:=L1.o.all;have l1f:=L1.o.fz;clear k1))
 have KF4:=(((((ak (W2.setCell ⟨b,9,none⟩ (iv V)) W1.heap.size 0 (iv F.v)).one 1 (iv F.pc)).one 2 (iv F.ad)).one 3 (iv F.wo)).one 4 (.bool F.wr))
 refine (fV F _).mono ?_
 rintro e9 W4 ⟨rfl,kf⟩
 have C4:=hide (((C2.o.aK V).kept KF4 (by omega) (by omega)).any kf)
 have A4:=hide (((A2.o.other b 9 (iv V) (by omega)).kept KF4 (by omega)).af kf)
 have R4:=hide (((R2.o.other b 9 (iv V) (by omega)).kept KF4 (by omega)).af kf)
 have S4:=hide (((S2.o.set b 9 (iv V) (.inl (by omega))).mine KF4 (by omega)).any kf)
 have L4:Hid (Blk W4 W1.heap.size (ftA F) 49):=hide (Blk.af (((((((L2.o.other b 9 (iv V) (by omega))).set 0 (iv F.v)).set 1 (iv F.pc)).set 2 (iv F.ad)).set 3 (iv F.wo)).set 4 (.bool F.wr)) kf)
 have p4:=A4.o.all
 have q4:=L4.o.all
 have r4:=R4.o.all
 have rf4:=R4.o.fz
 have qf4:=L4.o.fz
 clear kf KF4
 clear hX p p1 l1a l1f lb lf c9 cz v0 v1 v2 v3 v4 v5 v6 v7 v8 v9 v10 v11 v12 v13
 cases hv:(F.v != 0)
 ·have E1:Hid (c.cb0=(E.aK V).dB (Pl.bQ (E.aK V).r ST)):=hide (by rw [ET.o,hv];rfl)
  have EF:Hid (E.f=Pl.aI):=hide (Pl.Bg hf HE.o (by rw [←HF.o];exact hv))
  go_wp2_with (first|(go_at_call 92;refine (Em _ lo b g' (E.aK V) h ST C4.o GE.o.g st0 st1).mono ?_;rintro e9 W5 ⟨rfl,hc,hk⟩;have C5:=hide hc;have R5:=hide (R4.o.kept hk (by omega));have S5:=hide (S4.o.ai hk (Nat.le_refl _) (Nat.le_refl _));have r5:=R5.o.all;have rf5:=R5.o.fz;clear hc hk))
  have KR:=(((((ak W5 (w.heap.size+1) 0 (iv 0)).one 1 (iv 0)).one 2 (iv 0)).one 3 (iv 0)).one 4 (.bool false))
  refine bodyPost_ret (v:=.agg ftZ) ?_ rfl ⟨g',?_,?_,(S5.o).mine KR (by omega)⟩
  ·rw [aj rfl];go_simp
  ·rw [E1.o,show ((E.aK V).dB (Pl.bQ (E.aK V).r ST)).f=Pl.aI from EF.o];rfl
  ·rw [E1.o];exact ((C5.o).kept KR (by omega) (by omega))
 ·have E1:Hid (c.cb0=E.aK V):=hide (by rw [ET.o,hv];rfl)
  go_wp2_with fail
  have KR:=(((((ak W4 (w.heap.size+1) 0 (iv F.v)).one 1 (iv F.pc)).one 2 (iv F.ad)).one 3 (iv F.wo)).one 4 (.bool F.wr))
  refine bodyPost_ret (v:=.agg (ftA F)) ?_ rfl ⟨g',?_,?_,(S4.o).mine KR (by omega)⟩
  ·rw [aj rfl];go_simp
  ·rw [E1.o,show (E.aK V).f=F from HF.o.symm];rfl
  ·rw [E1.o];exact ((C4.o).kept KR (by omega) (by omega))
theorem UD (w:World) (lo b g:Nat) (c:Pl.Mc) (h:Bool) (op z r m k e:Int) (hC:CAt w lo b g c h) (G:Pl.GM c) (hf:c.f=Pl.aI) :
  Calls prog 204 #[.pointer (some ⟨b,0,none⟩),.agg (inA op z r m k e 1)] w fun e' w'=>∃g',e'=.returned (.agg (ftC c.cb1.f))∧CAt w' lo b g' (c.cb1) h∧Since w b (b+1) g w' g':=by
 obtain ⟨l0,l1,l2,l3,l4⟩:=hC.lt
 have HG:=hide G
 obtain ⟨X,hX,K0,C0,A0,R0,sX⟩:=hC.jl op z r m k e 1
 have p:=A0.o.all
 clear hC G
 obtain ⟨E,hE⟩:∃E,E=c.pop:=⟨_,rfl⟩
 obtain ⟨V,hV⟩:∃V,V=c.eu:=⟨_,rfl⟩
 obtain ⟨F,hF⟩:∃F,F=E.f:=⟨_,rfl⟩
 have vb:=Pl.kM HG.o
 rw [←hV] at vb
 obtain ⟨vb0,vb1⟩:=vb
 have GE:Hid (Pl.GM E):=hide (by rw [hE];exact HG.o.pop)
 obtain ⟨D,hD⟩:∃D,D=E.pop:=⟨_,rfl⟩
 obtain ⟨U,hU⟩:∃U,U=E.eu:=⟨_,rfl⟩
 obtain ⟨J,hJ⟩:∃J,J=D.f:=⟨_,rfl⟩
 have ub:=Pl.kM GE.o
 rw [←hU] at ub
 have GD:Hid (Pl.GM (D.aK U)):=hide (by have q:=GE.o.pop;rw [←hD] at q;exact q.aK ub.1 ub.2)
 have ET:Hid (c.cb1=bif !(F.v != 0) then (bif !(J.v != 0) then (D.aK U).dB (Pl.bQ (D.aK U).r (V%1024)) else D.aK U) else E):=hide (by
  unfold Pl.Mc.cb1
  rw [←hE,←hV,←hD,←hU,hF,hJ];unfold Pl.Mc.fine;simp [bne])
 have HE:=hide hE
 have HV:=hide hV
 have HF:=hide hF
 have HD:=hide hD
 have HU:=hide hU
 have HJ:=hide hJ
 have er0:0≤V%1024:=by omega
 have er1:V%1024≤1023:=by omega
 have er2:V.tmod 1024=V%1024:=Int.tmod_eq_emod_of_nonneg vb0
 clear hE hV hF hD hU hJ ub
 obtain ⟨v0,v1,v2,v3,v4,v5,v6,v7,v8,v9,v10,v11,v12,v13⟩:=C0.o.Ap
 go_enter func204,ntmps204
 go_wp2_with (first|(go_at_call 233;have z9:=C1;refine (Uh _ lo b g c h C1.o HG.o hf).mono ?_;rintro e9 W2 ⟨g2,rfl,hc,hs⟩;rw [←HE.o] at hc ⊢;rw [←HV.o,←HF.o];unfold ftC;have C2:=hide hc;have A2:=hide (hs.blk A1.o (by omega) (by omega));have R2:=hide (hs.blk R1.o (by omega) (by omega));have L2:=hide (hs.blk L1.o (by omega) (by omega));have S2:=hide (((Since.refl w b (b+1) g).any K1.o).trans hs);have z2:=hs.size;have n2:=hs.ne (b:=w.heap.size+1) R1.o.lt (by omega);have m2:=hs.ne (b:=W1.heap.size) L1.o.lt (by omega);have o2:=hs.ne (b:=w.heap.size) A1.o.lt (by omega);have lb:=(hs.blk L1.o (by omega) (by omega)).all;have lf:=(hs.blk L1.o (by omega) (by omega)).fz;clear hc hs)|(go_at_call 93;refine (qU c.r _ HG.o.g.f0 HG.o.g.f1 HG.o.g.m0 HG.o.g.m1).mono ?_;rintro e9 W1 ⟨rfl,k1⟩;have C1:=hide ((C0.o.any k1).alloc (.cells ftZ 49));have A1:=hide ((A0.o.af k1).alloc (.cells ftZ 49));have R1:=hide ((R0.o.af k1).alloc (.cells ftZ 49));have K1:=hide (ah (K0.o.trans k1) (.cells ftZ 49));have L1:=hide (Blk.new W1 ftZ 49);have s1:=k1.size;have p1:=A1.o.all;have l1a:=L1.o.all;have l1f:=L1.o.fz;clear k1))
 have KF4:=(((((ak W2 W1.heap.size 0 (iv F.v)).one 1 (iv F.pc)).one 2 (iv F.ad)).one 3 (iv F.wo)).one 4 (.bool F.wr))
 refine (fV F _).mono ?_
 rintro e9 W4 ⟨rfl,kf⟩
 have C4:=hide ((C2.o.kept KF4 (by omega) (by omega)).any kf)
 have A4:=hide ((A2.o.kept KF4 (by omega)).af kf)
 have R4:=hide ((R2.o.kept KF4 (by omega)).af kf)
 have S4:=hide ((S2.o.mine KF4 (by omega)).any kf)
 have L4:Hid (Blk W4 W1.heap.size (ftA F) 49):=hide (Blk.af ((((((L2.o).set 0 (iv F.v)).set 1 (iv F.pc)).set 2 (iv F.ad)).set 3 (iv F.wo)).set 4 (.bool F.wr)) kf)
 have p4:=A4.o.all
 have q4:=L4.o.all
 have r4:=R4.o.all
 have rf4:=R4.o.fz
 have qf4:=L4.o.fz
 clear kf KF4
 clear hX p p1 l1a l1f lb lf v0 v1 v2 v3 v4 v5 v6 v7 v8 v9 v10 v11 v12 v13
 cases hv:(F.v != 0)
 ·have EF:Hid (E.f=Pl.aI):=hide (Pl.Bg hf HE.o (by rw [←HF.o];exact hv))
  go_wp2_with (first|(go_at_call 233;have z9:=C4;refine (Uh _ lo b g2 E h C4.o GE.o EF.o).mono ?_;rintro e9 W6 ⟨g6,rfl,hc,hs⟩;rw [←HD.o] at hc ⊢;rw [←HU.o,←HJ.o];unfold ftC;have C6:=hide hc;have A6:=hide (hs.blk A4.o (by omega) (by omega));have R6:=hide (hs.blk R4.o (by omega) (by omega));have L6:=hide (hs.blk L4.o (by omega) (by omega));have S6:=hide (S4.o.trans hs);have z6:=hs.size;have n6:=hs.ne (b:=w.heap.size+1) R4.o.lt (by omega);have m6:=hs.ne (b:=W1.heap.size) L4.o.lt (by omega);have o6:=hs.ne (b:=w.heap.size) A4.o.lt (by omega);have c9:=hc.cP;have cz:=hc.fz;have lb:=((hs.blk L4.o (by omega) (by omega)).other b 9 (iv U) (by omega)).all;have lf:=((hs.blk L4.o (by omega) (by omega)).other b 9 (iv U) (by omega)).fz;clear hc hs))
  have KF8:=(((((ak (W6.setCell ⟨b,9,none⟩ (iv U)) W1.heap.size 0 (iv J.v)).one 1 (iv J.pc)).one 2 (iv J.ad)).one 3 (iv J.wo)).one 4 (.bool J.wr))
  refine (fV J _).mono ?_
  rintro e9 W8 ⟨rfl,kf⟩
  have C8:=hide (((C6.o.aK U).kept KF8 (by omega) (by omega)).any kf)
  have A8:=hide (((A6.o.other b 9 (iv U) (by omega)).kept KF8 (by omega)).af kf)
  have R8:=hide (((R6.o.other b 9 (iv U) (by omega)).kept KF8 (by omega)).af kf)
  have S8:=hide (((S6.o.set b 9 (iv U) (.inl (by omega))).mine KF8 (by omega)).any kf)
  have L8:Hid (Blk W8 W1.heap.size (ftA J) 49):=hide (Blk.af (((((((L6.o.other b 9 (iv U) (by omega))).set 0 (iv J.v)).set 1 (iv J.pc)).set 2 (iv J.ad)).set 3 (iv J.wo)).set 4 (.bool J.wr)) kf)
  have p8:=A8.o.all
  have q8:=L8.o.all
  have r8:=R8.o.all
  have rf8:=R8.o.fz
  have qf8:=L8.o.fz
  clear kf KF8
  clear lb lf c9 cz p4 q4 r4 rf4 qf4
  cases hw:(J.v != 0)
  ·have E1:Hid (c.cb1=(D.aK U).dB (Pl.bQ (D.aK U).r (V%1024))):=hide (by rw [ET.o,hv,hw];rfl)
   have DF:Hid (D.f=Pl.aI):=hide (Pl.Bg EF.o HD.o (by rw [←HJ.o];exact hw))
   go_wp2_with (first|(go_at_call 92;refine (Em _ lo b g6 (D.aK U) h (V%1024) C8.o GD.o.g er0 er1).mono ?_;rintro e9 W9 ⟨rfl,hc,hk⟩;have C9:=hide hc;have R9:=hide (R8.o.kept hk (by omega));have S9:=hide (S8.o.ai hk (Nat.le_refl _) (Nat.le_refl _));have r9:=R9.o.all;have rf9:=R9.o.fz;clear hc hk))
   have KR:=(((((ak W9 (w.heap.size+1) 0 (iv 0)).one 1 (iv 0)).one 2 (iv 0)).one 3 (iv 0)).one 4 (.bool false))
   refine bodyPost_ret (v:=.agg ftZ) ?_ rfl ⟨g6,?_,?_,(S9.o).mine KR (by omega)⟩
   ·rw [aj rfl];go_simp
   ·rw [E1.o,show ((D.aK U).dB (Pl.bQ (D.aK U).r (V%1024))).f=Pl.aI from DF.o];rfl
   ·rw [E1.o];exact ((C9.o).kept KR (by omega) (by omega))
  ·have E1:Hid (c.cb1=D.aK U):=hide (by rw [ET.o,hv,hw];rfl)
   go_wp2_with fail
   have KR:=(((((ak W8 (w.heap.size+1) 0 (iv J.v)).one 1 (iv J.pc)).one 2 (iv J.ad)).one 3 (iv J.wo)).one 4 (.bool J.wr))
   refine bodyPost_ret (v:=.agg (ftA J)) ?_ rfl ⟨g6,?_,?_,(S8.o).mine KR (by omega)⟩
   ·rw [aj rfl];go_simp
   ·rw [E1.o,show (D.aK U).f=J from HJ.o.symm];rfl
   ·rw [E1.o];exact ((C8.o).kept KR (by omega) (by omega))
 ·have E1:Hid (c.cb1=E):=hide (by rw [ET.o,hv];rfl)
  go_wp2_with fail
  have KR:=(((((ak W4 (w.heap.size+1) 0 (iv F.v)).one 1 (iv F.pc)).one 2 (iv F.ad)).one 3 (iv F.wo)).one 4 (.bool F.wr))
  refine bodyPost_ret (v:=.agg (ftA F)) ?_ rfl ⟨g2,?_,?_,(S4.o).mine KR (by omega)⟩
  ·rw [aj rfl];go_simp
  ·rw [E1.o,←HF.o];rfl
  ·rw [E1.o];exact ((C4.o).kept KR (by omega) (by omega))
namespace Pl
def Mc.fw (c:Mc) (x:In):Mc:=
 bif x.s==0 then c.cb0 else bif x.s==1 then c.cb1 else bif x.s==3 then {c.dB (bQ c.r x.e) with st:=true} else bif x.s==4 then {c with f:=⟨18+x.r,0,0,0,false⟩}
 else bif x.s==5 then (c.put 2 x.r (lW (el c.r.xs x.r.toNat))).aF (aS 2 c.r.f (lW (el c.r.xs x.r.toNat))) else bif x.s==6 then (c.put 2 x.r (ni (c.low 1 x.r))).aF (aS 2 c.r.f (ni (c.low 1 x.r))) else c
end Pl
theorem Uz (w:World) (lo b g:Nat) (c:Pl.Mc) (h:Bool) (op z r m k e:Int) (hC:CAt w lo b g c h) (G:Pl.GM c) (hf:c.f=Pl.aI) (B:Pl.InB ⟨op,z,r,m,k,e,0⟩) :
  Calls prog 170 #[.pointer (some ⟨b,0,none⟩),.agg (inA op z r m k e 0)] w fun e' w'=>∃g',e'=.returned (.agg (ftC (c.fw ⟨op,z,r,m,k,e,0⟩).f))∧CAt w' lo b g' (c.fw ⟨op,z,r,m,k,e,0⟩) h∧Since w b (b+1) g w' g':=by
 have HB:=hide B
 clear B
 obtain ⟨l0,l1,l2,l3,l4⟩:=hC.lt
 have HG:=hide G
 obtain ⟨X,hX,K0,C0,A0,R0,sX⟩:=hC.jl op z r m k e 0
 have p:=A0.o.all
 clear hC G
 have r0:=R0.o.all
 have rf0:=R0.o.fz
 obtain ⟨E,hE⟩:∃E,E=c.cb0:=⟨_,rfl⟩
 obtain ⟨F,hF⟩:∃F,F=E.f:=⟨_,rfl⟩
 have ET:Hid (c.fw ⟨op,z,r,m,k,e,0⟩=E):=hide (by rw [hE];rfl)
 have HE:=hide hE
 have HF:=hide hF
 clear hE hF
 go_enter func170,ntmps170
 go_wp2_with (go_at_call 204;refine (UE _ lo b g c h op z r m k e C0.o HG.o hf).mono ?_;rintro e9 W1 ⟨g',rfl,hc,hs⟩;rw [←HE.o] at hc ⊢;rw [←HF.o];unfold ftC;have C1:=hide hc;have R1:=hide (hs.blk R0.o (by omega) (by omega));have n1:=hs.ne (b:=w.heap.size+1) R0.o.lt (by omega);have S1:=hide (((Since.refl w b (b+1) g).any K0.o).trans hs);have r1:=R1.o.all;have rf1:=R1.o.fz;clear hc hs)
 have KR:=(((((ak W1 (w.heap.size+1) 0 (iv F.v)).one 1 (iv F.pc)).one 2 (iv F.ad)).one 3 (iv F.wo)).one 4 (.bool F.wr))
 refine bodyPost_ret (v:=.agg (ftA F)) ?_ rfl ⟨g',?_,?_,(S1.o).mine KR (by omega)⟩
 ·rw [aj rfl];go_simp
 ·rw [ET.o,←HF.o];rfl
 ·rw [ET.o];exact ((C1.o).kept KR (by omega) (by omega))
theorem Uy (w:World) (lo b g:Nat) (c:Pl.Mc) (h:Bool) (op z r m k e:Int) (hC:CAt w lo b g c h) (G:Pl.GM c) (hf:c.f=Pl.aI) (B:Pl.InB ⟨op,z,r,m,k,e,1⟩) :
  Calls prog 170 #[.pointer (some ⟨b,0,none⟩),.agg (inA op z r m k e 1)] w fun e' w'=>∃g',e'=.returned (.agg (ftC (c.fw ⟨op,z,r,m,k,e,1⟩).f))∧CAt w' lo b g' (c.fw ⟨op,z,r,m,k,e,1⟩) h∧Since w b (b+1) g w' g':=by
 have HB:=hide B
 clear B
 obtain ⟨l0,l1,l2,l3,l4⟩:=hC.lt
 have HG:=hide G
 obtain ⟨X,hX,K0,C0,A0,R0,sX⟩:=hC.jl op z r m k e 1
 have p:=A0.o.all
 clear hC G
 have r0:=R0.o.all
 have rf0:=R0.o.fz
 obtain ⟨E,hE⟩:∃E,E=c.cb1:=⟨_,rfl⟩
 obtain ⟨F,hF⟩:∃F,F=E.f:=⟨_,rfl⟩
 have ET:Hid (c.fw ⟨op,z,r,m,k,e,1⟩=E):=hide (by rw [hE];rfl)
 have HE:=hide hE
 have HF:=hide hF
 clear hE hF
 go_enter func170,ntmps170
 go_wp2_with (go_at_call 204;refine (UD _ lo b g c h op z r m k e C0.o HG.o hf).mono ?_;rintro e9 W1 ⟨g',rfl,hc,hs⟩;rw [←HE.o] at hc ⊢;rw [←HF.o];unfold ftC;have C1:=hide hc;have R1:=hide (hs.blk R0.o (by omega) (by omega));have n1:=hs.ne (b:=w.heap.size+1) R0.o.lt (by omega);have S1:=hide (((Since.refl w b (b+1) g).any K0.o).trans hs);have r1:=R1.o.all;have rf1:=R1.o.fz;clear hc hs)
 have KR:=(((((ak W1 (w.heap.size+1) 0 (iv F.v)).one 1 (iv F.pc)).one 2 (iv F.ad)).one 3 (iv F.wo)).one 4 (.bool F.wr))
 refine bodyPost_ret (v:=.agg (ftA F)) ?_ rfl ⟨g',?_,?_,(S1.o).mine KR (by omega)⟩
 ·rw [aj rfl];go_simp
 ·rw [ET.o,←HF.o];rfl
 ·rw [ET.o];exact ((C1.o).kept KR (by omega) (by omega))
theorem Ux (w:World) (lo b g:Nat) (c:Pl.Mc) (h:Bool) (op z r m k e:Int) (hC:CAt w lo b g c h) (G:Pl.GM c) (hf:c.f=Pl.aI) (B:Pl.InB ⟨op,z,r,m,k,e,2⟩) :
  Calls prog 170 #[.pointer (some ⟨b,0,none⟩),.agg (inA op z r m k e 2)] w fun e' w'=>∃g',e'=.returned (.agg (ftC (c.fw ⟨op,z,r,m,k,e,2⟩).f))∧CAt w' lo b g' (c.fw ⟨op,z,r,m,k,e,2⟩) h∧Since w b (b+1) g w' g':=by
 have HB:=hide B
 clear B
 obtain ⟨l0,l1,l2,l3,l4⟩:=hC.lt
 have HG:=hide G
 obtain ⟨X,hX,K0,C0,A0,R0,sX⟩:=hC.jl op z r m k e 2
 have p:=A0.o.all
 clear hC G
 have r0:=R0.o.all
 have rf0:=R0.o.fz
 have ET:Hid (c.fw ⟨op,z,r,m,k,e,2⟩=c):=hide rfl
 go_enter func170,ntmps170
 go_wp2_with fail
 have KR:=(((((ak X (w.heap.size+1) 0 (iv 0)).one 1 (iv 0)).one 2 (iv 0)).one 3 (iv 0)).one 4 (.bool false))
 refine bodyPost_ret (v:=.agg ftZ) ?_ rfl ⟨g,?_,?_,((Since.refl w b (b+1) g).any K0.o).mine KR (by omega)⟩
 ·rw [aj rfl];go_simp
 ·rw [ET.o,hf];rfl
 ·rw [ET.o];exact ((C0.o).kept KR (by omega) (by omega))
theorem Uu (w:World) (lo b g:Nat) (c:Pl.Mc) (h:Bool) (op z r m k e:Int) (hC:CAt w lo b g c h) (G:Pl.GM c) (hf:c.f=Pl.aI) (B:Pl.InB ⟨op,z,r,m,k,e,4⟩) :
  Calls prog 170 #[.pointer (some ⟨b,0,none⟩),.agg (inA op z r m k e 4)] w fun e' w'=>∃g',e'=.returned (.agg (ftC (c.fw ⟨op,z,r,m,k,e,4⟩).f))∧CAt w' lo b g' (c.fw ⟨op,z,r,m,k,e,4⟩) h∧Since w b (b+1) g w' g':=by
 have HB:=hide B
 clear B
 obtain ⟨l0,l1,l2,l3,l4⟩:=hC.lt
 have HG:=hide G
 obtain ⟨X,hX,K0,C0,A0,R0,sX⟩:=hC.jl op z r m k e 4
 have p:=A0.o.all
 clear hC G
 have r0:=R0.o.all
 have rf0:=R0.o.fz
 have rb0:0≤r:=HB.o.r0
 have rb1:r≤3:=HB.o.r1
 have ET:Hid (c.fw ⟨op,z,r,m,k,e,4⟩={c with f:=⟨18+r,0,0,0,false⟩}):=hide rfl
 go_enter func170,ntmps170
 go_wp2_with fail
 have KR:=(((((ak X (w.heap.size+1) 0 (iv (18+r))).one 1 (iv 0)).one 2 (iv 0)).one 3 (iv 0)).one 4 (.bool false))
 refine bodyPost_ret (v:=.agg #[iv (18+r),iv 0,iv 0,iv 0,.bool false]) ?_ rfl ⟨g,?_,?_,((Since.refl w b (b+1) g).any K0.o).mine KR (by omega)⟩
 ·rw [aj rfl];go_simp
 ·rw [ET.o];rfl
 ·rw [ET.o];exact ((C0.o).kept KR (by omega) (by omega)).fx rfl rfl rfl rfl rfl
theorem Uw (w:World) (lo b g:Nat) (c:Pl.Mc) (h:Bool) (op z r m k e:Int) (hC:CAt w lo b g c h) (G:Pl.GM c) (hf:c.f=Pl.aI) (B:Pl.InB ⟨op,z,r,m,k,e,3⟩) (he:e≤1023) :
  Calls prog 170 #[.pointer (some ⟨b,0,none⟩),.agg (inA op z r m k e 3)] w fun e' w'=>∃g',e'=.returned (.agg (ftC (c.fw ⟨op,z,r,m,k,e,3⟩).f))∧CAt w' lo b g' (c.fw ⟨op,z,r,m,k,e,3⟩) h∧Since w b (b+1) g w' g':=by
 have HB:=hide B
 clear B
 obtain ⟨l0,l1,l2,l3,l4⟩:=hC.lt
 have HG:=hide G
 obtain ⟨X,hX,K0,C0,A0,R0,sX⟩:=hC.jl op z r m k e 3
 have p:=A0.o.all
 clear hC G
 have r0:=R0.o.all
 have rf0:=R0.o.fz
 have e0:0≤e:=HB.o.e0
 have ET:Hid (c.fw ⟨op,z,r,m,k,e,3⟩={c.dB (Pl.bQ c.r e) with st:=true}):=hide rfl
 go_enter func170,ntmps170
 go_wp2_with fail
 clear hX p r0 rf0
 have u5:=A0.o.cell (i:=5) rfl
 go_region_held3 (fun w'=>w'.cell? ⟨w.heap.size,5,none⟩=some (iv e)) (first|with_reducible exact A1.o.cell (i:=5) rfl|exact (show Blk _ _ _ _ from A0.o).cell (i:=5) rfl)
  (first|(go_at_call 92;refine (Em _ lo b g c h e C0.o.drew HG.o.g e0 he).mono ?_;rintro e9 W1 ⟨rfl,hc,kd⟩;have k1:=cZ kd;have C1:=hide hc;have A1:=hide (A0.o.kept k1 (by omega));have R1:=hide (R0.o.kept k1 (by omega));have S1:=hide (((Since.refl w b (b+1) g).any K0.o).ai k1 (Nat.le_refl _) (Nat.le_refl _));clear hc kd k1))
 have c7:=C1.o.cSt HG.o.bx
 have cz:=C1.o.fz
 have r2:=(R1.o.other b 527 (.bool true) (by omega)).all
 have rf2:=(R1.o.other b 527 (.bool true) (by omega)).fz
 go_wp2_with fail
 have KR:=(((((ak (W1.setCell ⟨b,527,none⟩ (.bool true)) (w.heap.size+1) 0 (iv 0)).one 1 (iv 0)).one 2 (iv 0)).one 3 (iv 0)).one 4 (.bool false))
 refine bodyPost_ret (v:=.agg ftZ) ?_ rfl ⟨g,?_,?_,(S1.o.set b 527 (.bool true) (.inl (by omega))).mine KR (by omega)⟩
 ·rw [aj rfl];go_simp
 ·rw [ET.o,show ({c.dB (Pl.bQ c.r e) with st:=true}:Pl.Mc).f=Pl.aI from hf];rfl
 ·rw [ET.o];exact ((C1.o.Yf HG.o.bx true).kept KR (by omega) (by omega))
theorem Bd' {w:World} {b:Nat} {cs:Array Value} {t:TypeId} (h:Blk w b cs t):Blk w.drew b cs t:=h
theorem Pl.xQ {c:Pl.Mc} (h:Pl.GM c) {n:Nat} (hn:n<4) {v:Int}:el (c.put 2 (n:Int) v).r.xs n=v:=by
 show el (c.r.xs.set n _) n=v
 rw [Pl.vX (by have:=h.g.d4;omega),if_pos rfl]
 rfl
theorem Ut (w:World) (lo b g:Nat) (c:Pl.Mc) (h:Bool) (op z r m k e:Int) (hC:CAt w lo b g c h) (G:Pl.GM c) (hf:c.f=Pl.aI) (B:Pl.InB ⟨op,z,r,m,k,e,5⟩) :
  Calls prog 170 #[.pointer (some ⟨b,0,none⟩),.agg (inA op z r m k e 5)] w fun e' w'=>∃g',e'=.returned (.agg (ftC (c.fw ⟨op,z,r,m,k,e,5⟩).f))∧CAt w' lo b g' (c.fw ⟨op,z,r,m,k,e,5⟩) h∧Since w b (b+1) g w' g':=by
 have HB:=hide B
 clear B
 obtain ⟨l0,l1,l2,l3,l4⟩:=hC.lt
 have HG:=hide G
 obtain ⟨X,hX,K0,C0,A0,R0,sX⟩:=hC.jl op z r m k e 5
 have p:=A0.o.all
 clear hC G
 have r0:=R0.o.all
 have rf0:=R0.o.fz
 obtain ⟨n,rfl⟩:∃n:Nat,r=(n:Int):=⟨r.toNat,by have:0≤r:=HB.o.r0;omega⟩
 have hn:n<4:=by have:(n:Int)≤3:=HB.o.r1;omega
 have i0:(0:Int)≤(n:Int):=by omega
 have i1:(n:Int)<4:=by omega
 have xb:=HG.o.g.dw n hn
 obtain ⟨xb0,xb1⟩:=xb
 obtain ⟨V,hV⟩:∃V,V=Pl.lW (el c.r.xs n):=⟨_,rfl⟩
 have vb:Pl.okv 2 V=true:=by rw [hV];exact Pl.Dx _
 have vb2:=Pl.aQ vb
 obtain ⟨vb0,vb1⟩:0≤V∧V≤65535:=by omega
 have ET:Hid (c.fw ⟨op,z,(n:Int),m,k,e,5⟩=(c.put 2 (n:Int) V).aF (Pl.aS 2 c.r.f V)):=hide (by rw [hV];rfl)
 have eV:Pl.lW (el c.r.xs n)=V:=hV.symm
 clear hV vb vb2
 go_enter func170,ntmps170
 go_wp2_with fail
 clear hX p r0 rf0
 have q1:=C0.o.cX hn
 have qf:=C0.o.fz n
 have u1:=A0.o.cell (i:=2) rfl
 go_region_with (first|(go_at_call 205;refine st (EM _ _ (by omega) (by omega)) ?_;rw [eV]))
 all_goals
  go_wp2_with fail
  have C3:Hid (CAt (X.setCell ⟨b,n,none⟩ (iv V)).drew lo b g (c.put 2 (n:Int) V) h):=hide (C0.o.zk HG.o.g.d4 hn V).drew
  have A3:=hide (Bd' (A0.o.other b n (iv V) (by omega)))
  have R3:=hide (Bd' (R0.o.other b n (iv V) (by omega)))
  have S3:=hide ((((Since.refl w b (b+1) g).any K0.o).set b n (iv V) (.inl (by omega))).drew)
  obtain ⟨W3,hW⟩:∃W:World,(X.setCell ⟨b,n,none⟩ (iv V)).drew=W:=⟨_,rfl⟩
  rw [hW] at C3 A3 R3 S3 ⊢
  clear hW q1 qf u1
  have u2:=A3.o.cell (i:=2) rfl
  have q3:=C3.o.cX hn
  rw [show el (c.put 2 (n:Int) V).r.xs n=V from Pl.xQ HG.o hn] at q3
  go_region_held3 (fun w'=>w'.cell? ⟨w.heap.size,2,none⟩=some (iv (n:Int))∧w'.cell? ⟨b,n,none⟩=some (iv V)) (first|with_reducible exact ⟨A4.o.cell (i:=2) rfl,q4⟩|exact ⟨(show Blk _ _ _ _ from A3.o).cell (i:=2) rfl,q3⟩)
   (first|(go_at_call 196;refine (uh _ lo b g (c.put 2 (n:Int) V) h 2 V C3.o.drew vb0 vb1).mono ?_;rintro e9 W4 ⟨rfl,hc,kd⟩;have k4:=cZ kd;have C4:=hide hc;have A4:=hide (A3.o.kept k4 (by omega));have R4:=hide (R3.o.kept k4 (by omega));have S4:=hide (S3.o.ai k4 (Nat.le_refl _) (Nat.le_refl _));have q4:=hc.cX hn;rw [show el ((c.put 2 (n:Int) V).aF (Pl.aS 2 (c.put 2 (n:Int) V).r.f V)).r.xs n=V from Pl.xQ HG.o hn] at q4;clear hc kd k4))
  have r4:=R4.o.all
  have rf4:=R4.o.fz
  go_wp2_with fail
  have KR:=(((((ak W4 (w.heap.size+1) 0 (iv 0)).one 1 (iv 0)).one 2 (iv 0)).one 3 (iv 0)).one 4 (.bool false))
  refine bodyPost_ret (v:=.agg ftZ) ?_ rfl ⟨g,?_,?_,(S4.o).mine KR (by omega)⟩
  ·rw [aj rfl];go_simp
  ·rw [ET.o,show ((c.put 2 (n:Int) V).aF (Pl.aS 2 c.r.f V)).f=Pl.aI from hf];rfl
  ·rw [ET.o];exact ((C4.o).kept KR (by omega) (by omega))
theorem Us (w:World) (lo b g:Nat) (c:Pl.Mc) (h:Bool) (op z r m k e:Int) (hC:CAt w lo b g c h) (G:Pl.GM c) (hf:c.f=Pl.aI) (B:Pl.InB ⟨op,z,r,m,k,e,6⟩) :
  Calls prog 170 #[.pointer (some ⟨b,0,none⟩),.agg (inA op z r m k e 6)] w fun e' w'=>∃g',e'=.returned (.agg (ftC (c.fw ⟨op,z,r,m,k,e,6⟩).f))∧CAt w' lo b g' (c.fw ⟨op,z,r,m,k,e,6⟩) h∧Since w b (b+1) g w' g':=by
 have HB:=hide B
 clear B
 obtain ⟨l0,l1,l2,l3,l4⟩:=hC.lt
 have HG:=hide G
 obtain ⟨X,hX,K0,C0,A0,R0,sX⟩:=hC.jl op z r m k e 6
 have p:=A0.o.all
 clear hC G
 have r0:=R0.o.all
 have rf0:=R0.o.fz
 obtain ⟨n,rfl⟩:∃n:Nat,r=(n:Int):=⟨r.toNat,by have:0≤r:=HB.o.r0;omega⟩
 have hn:n<4:=by have:(n:Int)≤3:=HB.o.r1;omega
 have i0:(0:Int)≤(n:Int):=by omega
 have i1:(n:Int)<4:=by omega
 have OQ:Hid (Pl.okv 1 (c.low 1 (n:Int))=true):=hide (Pl.fP HG.o (.inl rfl) i0 (by omega))
 obtain ⟨Q,hQ⟩:∃Q,Q=c.low 1 (n:Int):=⟨_,rfl⟩
 rw [←hQ] at OQ
 have tq:=Pl.aQ OQ.o
 obtain ⟨qb0,qb1⟩:0≤Q∧Q≤255:=by omega
 obtain ⟨V,hV⟩:∃V,V=Pl.ni Q:=⟨_,rfl⟩
 have vb:Pl.okv 2 V=true:=by rw [hV];exact Pl.Dz _
 have vb2:=Pl.aQ vb
 obtain ⟨vb0,vb1⟩:0≤V∧V≤65535:=by omega
 have ET:Hid (c.fw ⟨op,z,(n:Int),m,k,e,6⟩=(c.put 2 (n:Int) V).aF (Pl.aS 2 c.r.f V)):=hide (by rw [hV,hQ];rfl)
 have HV:=hide hV
 have HQ:=hide hQ
 clear hV vb vb2 hQ tq
 go_enter func170,ntmps170
 go_wp2_with fail
 clear hX p r0 rf0
 have u1:=A0.o.cell (i:=2) rfl
 go_region_held3 (fun w'=>w'.cell? ⟨w.heap.size,2,none⟩=some (iv (n:Int))) (first|with_reducible exact A1.o.cell (i:=2) rfl|exact (show Blk _ _ _ _ from A0.o).cell (i:=2) rfl|exact (A1.o.other b n (iv V) (by omega)).cell (i:=2) rfl)
  (first|(go_at_call 206;have z9:=C1;refine st (Cm Q _ (by omega) (by omega)) ?_;rw [←HV.o])|(go_at_call 194;refine (nY _ lo b g c h 1 (n:Int) C0.o.drew (.inl rfl) i0 (by omega)).mono ?_;rintro e9 W1 ⟨rfl,kd⟩;rw [←HQ.o];have k1:=cZ kd;have C1:=hide (C0.o.any k1);have A1:=hide (A0.o.af k1);have R1:=hide (R0.o.af k1);have K1:=hide (K0.o.trans k1);have q1:=C1.o.cX hn;have qz:=C1.o.fz;clear kd k1))
 go_wp2_with fail
 have C3:Hid (CAt (W1.setCell ⟨b,n,none⟩ (iv V)) lo b g (c.put 2 (n:Int) V) h):=hide (C1.o.zk HG.o.g.d4 hn V)
 have A3:=hide (A1.o.other b n (iv V) (by omega))
 have R3:=hide (R1.o.other b n (iv V) (by omega))
 have S3:=hide (((Since.refl w b (b+1) g).any K1.o).set b n (iv V) (.inl (by omega)))
 obtain ⟨W3,hW⟩:∃W:World,W1.setCell ⟨b,n,none⟩ (iv V)=W:=⟨_,rfl⟩
 rw [hW] at C3 A3 R3 S3 ⊢
 clear hW q1 qz
 have u2:=A3.o.cell (i:=2) rfl
 have q3:=C3.o.cX hn
 rw [show el (c.put 2 (n:Int) V).r.xs n=V from Pl.xQ HG.o hn] at q3
 go_region_held3 (fun w'=>w'.cell? ⟨w.heap.size,2,none⟩=some (iv (n:Int))∧w'.cell? ⟨b,n,none⟩=some (iv V)) (first|with_reducible exact ⟨A4.o.cell (i:=2) rfl,q4⟩|exact ⟨(show Blk _ _ _ _ from A3.o).cell (i:=2) rfl,q3⟩)
  (first|(go_at_call 196;refine (uh _ lo b g (c.put 2 (n:Int) V) h 2 V C3.o.drew vb0 vb1).mono ?_;rintro e9 W4 ⟨rfl,hc,kd⟩;have k4:=cZ kd;have C4:=hide hc;have A4:=hide (A3.o.kept k4 (by omega));have R4:=hide (R3.o.kept k4 (by omega));have S4:=hide (S3.o.ai k4 (Nat.le_refl _) (Nat.le_refl _));have q4:=hc.cX hn;rw [show el ((c.put 2 (n:Int) V).aF (Pl.aS 2 (c.put 2 (n:Int) V).r.f V)).r.xs n=V from Pl.xQ HG.o hn] at q4;clear hc kd k4))
 have r4:=R4.o.all
 have rf4:=R4.o.fz
 go_wp2_with fail
 have KR:=(((((ak W4 (w.heap.size+1) 0 (iv 0)).one 1 (iv 0)).one 2 (iv 0)).one 3 (iv 0)).one 4 (.bool false))
 refine bodyPost_ret (v:=.agg ftZ) ?_ rfl ⟨g,?_,?_,(S4.o).mine KR (by omega)⟩
 ·rw [aj rfl];go_simp
 ·rw [ET.o,show ((c.put 2 (n:Int) V).aF (Pl.aS 2 c.r.f V)).f=Pl.aI from hf];rfl
 ·rw [ET.o];exact ((C4.o).kept KR (by omega) (by omega))
theorem Pl.zV (u l:Int) (u0:0≤u) (u1:u≤15) (l0:0≤l) (l1:l≤15):bits .or .i64 (u*16) l=u*16+l:=
 bits_join .i64 62 (by decide) iC 4 (u*16) l (by omega) (by omega) (by omega) (by omega) (by omega) (by omega)
theorem mZ (v:Int) (w:World) (lv : -9223372036854775808≤v) (hv:v≤9223372036854775807) :
  Calls prog 258 #[iv v] w fun e w'=>e=.returned (.tuple #[iv (v/16),iv (v%16)])∧w'=w:=by
 have k:=Pl.ML v
 go_enter func258,ntmps258
 go_wp2
 go_ret2
 exact ⟨rII (by omega) (by omega),rfl⟩
theorem byteOf (u l:Int) (w:World) (u0:0≤u) (u1:u≤15) (l0:0≤l) (l1:l≤15) :
  Calls prog 259 #[iv u,iv l] w fun e w'=>e=.returned (iv (u*16+l))∧w'=w:=by
 have k:=Pl.zV u l u0 u1 l0 l1
 go_enter func259,ntmps259
 go_wp2
 go_ret
 exact ⟨rI (by omega),rfl⟩
theorem qP (v:Int) (w:World) (lv : -9223372036854775808≤v) (hv:v≤9223372036854775807) :
  Calls prog 235 #[iv v] w fun e w'=>e=.returned (.bool (Pl.bcd v))∧w'=w:=by
 cases ko:Pl.okv 1 v
 ·have kn:Pl.bcd v=false:=by
   cases c:Pl.bcd v
   ·rfl
   ·have:=Pl.qm c
    rw [Pl.Dy (by omega) (by omega)] at ko
    cases ko
  go_enter func235,ntmps235
  go_wp2_with fail
  refine (dG 1 v _ lv hv).mono ?_
  rintro e w' ⟨rfl,rfl⟩
  go_wp2_with fail
  go_ret
  exact ⟨rB kn.symm,rfl⟩
 ·have kr:=Pl.aQ ko
  have k0:0≤v∧v<256:=by omega
  obtain ⟨k0,k1⟩:=k0
  clear kr
  by_cases h9:v/16≤9
  all_goals
   by_cases h8:v%16≤9
   all_goals
    go_enter func235,ntmps235
    go_wp2_with fail
    refine (dG 1 v _ lv hv).mono ?_
    rintro e w' ⟨rfl,rfl⟩
    go_wp2_with fail
    refine (mZ v _ lv hv).mono ?_
    rintro e w' ⟨rfl,rfl⟩
    go_wp2_with fail
    go_ret
    exact ⟨rB (by simp [Pl.bcd,h9,h8]<;>omega),rfl⟩
theorem pY (x:Int) (w:World) :
  Calls prog 234 #[iv x] w fun e w'=>e=.returned (.bool (Pl.bit x))∧w'=w:=by
 by_cases h0:x=0
 ·subst h0
  go_enter func234,ntmps234
  go_wp2
  go_ret
  exact ⟨rfl,rfl⟩
 ·by_cases h1:x=1
  ·subst h1
   go_enter func234,ntmps234
   go_wp2
   go_ret
   exact ⟨rfl,rfl⟩
  ·have k0:(x==0)=false:=by simpa using h0
   have k1:(x==1)=false:=by simpa using h1
   go_enter func234,ntmps234
   go_wp2
   go_ret
   exact ⟨rB (by simp [Pl.bit];omega),rfl⟩
def nH (w:World):Prop:=∀i:Nat,i<20→w.cell? ⟨0,i,none⟩=some (iv ((i:Int)/10*16+(i:Int)%10))
def qN (w:World):Prop:=∀i:Nat,i<10→w.cell? ⟨1,i,none⟩=some (iv (9-(i:Int)))
theorem nH.below {w w':World} (h:nH w) (hb:Below w.heap.size w w'):nH w':=by
 intro i hi
 have hc:=h i hi
 rw [hb.cell (World.block_lt_of_cell? _ _ hc)];exact hc
theorem qN.below {w w':World} (h:qN w) (hb:Below w.heap.size w w'):qN w':=by
 intro i hi
 have hc:=h i hi
 rw [hb.cell (World.block_lt_of_cell? _ _ hc)];exact hc
theorem nH.drewN {w:World} (h:nH w) (n:Nat):nH (w.drewN n):=h
theorem nH.at {w:World} (h:nH w) (s:Int) (s0:0≤s) (s1:s<20):∃d:Int,w.cell? ⟨0,s.toNat,none⟩=some (iv d)∧0≤d∧d≤25∧d/16=s/10∧d%16=s%10:=
 ⟨_,h s.toNat (by omega),by omega,by omega,by omega,by omega⟩
theorem qN.at {w:World} (h:qN w) (s:Int) (s0:0≤s) (s1:s<10):w.cell? ⟨1,s.toNat,none⟩=some (iv (9-s)):=by
 rw [h s.toNat (by omega),Int.toNat_of_nonneg s0]
theorem uX (c a b:Int) (w:World) (ht:nH w) (c0:0≤c) (c1:c≤1) (ka:Pl.bcd a=true) (kb:Pl.bcd b=true) :
  Calls prog 236 #[iv c,iv a,iv b] w fun e w'=>e=.returned (.tuple #[iv (Pl.aV c a b),iv (Pl.aC c a b)])∧w'=w:=by
 have K:=Pl.lH c0 c1 ka kb
 obtain ⟨a0,a1,a2,a3⟩:=Pl.qm ka
 obtain ⟨b0,b1,b2,b3⟩:=Pl.qm kb
 obtain ⟨d,hd,d0,d1,d2,d3⟩:=ht.at (a%16+b%16+c) (by omega) (by omega)
 have d4:d/16≤1:=by omega
 have d5:0≤d/16:=by omega
 obtain ⟨f,hf,f0,f1,f2,f3⟩:=ht.at (a/16+b/16+d/16) (by omega) (by omega)
 have f4:f/16≤1:=by omega
 have E:Hid (Pl.aV c a b=f%16*16+d%16∧Pl.aC c a b=f/16):=by
  refine hide ?_
  rw [Pl.Es K,Pl.Et K]
  unfold Pl.ofN Pl.num
  omega
 clear ka kb K ht d2 d3 f2 f3
 go_enter func236,ntmps236
 go_wp2_with fail
 refine (mZ a _ (by omega) (by omega)).mono ?_
 rintro e w' ⟨rfl,rfl⟩
 go_wp2_with fail
 refine (mZ b _ (by omega) (by omega)).mono ?_
 rintro e w' ⟨rfl,rfl⟩
 go_wp2_with fail
 refine (mZ d _ (by omega) (by omega)).mono ?_
 rintro e w' ⟨rfl,rfl⟩
 go_wp2_with fail
 refine (mZ f _ (by omega) (by omega)).mono ?_
 rintro e w' ⟨rfl,rfl⟩
 go_wp2_with fail
 refine (byteOf (f%16) (d%16) _ (by omega) (by omega) (by omega) (by omega)).mono ?_
 rintro e w' ⟨rfl,rfl⟩
 go_wp2_with fail
 go_ret2
 exact ⟨rII E.o.1.symm E.o.2.symm,rfl⟩
theorem rW (v:Int) (w:World) (ht:qN w) (kv:Pl.bcd v=true) :
  Calls prog 237 #[iv v] w fun e w'=>e=.returned (iv (Pl.ug v))∧∃n,w'=w.drewN n:=by
 obtain ⟨v0,v1,v2,v3⟩:=Pl.qm kv
 have h1:=ht.at (v/16) (by omega) (by omega)
 have h2:=ht.at (v%16) (by omega) (by omega)
 have E:Hid (Pl.ug v=(9-v/16)*16+(9-v%16)):=by
  refine hide ?_
  simp only [Pl.ug,kv,if_true]
  unfold Pl.ofN Pl.num
  omega
 clear kv ht
 go_enter func237,ntmps237
 go_wp2_with fail
 refine (mZ v _ (by omega) (by omega)).mono ?_
 rintro e w' ⟨rfl,rfl⟩
 go_wp2_with fail
 go_quiet ((go_at_call 259;exact Calls.quiet_of_same (byteOf (9-v/16) (9-v%16) _ (by omega) (by omega) (by omega) (by omega))))
 go_wp2_with fail
 go_ret
 exact ⟨rI E.o.symm,_,rfl⟩
theorem UO (x a b:Int) (w:World) (ht:nH w) (lx : -9223372036854775808≤x) (hx:x≤9223372036854775807) (la : -9223372036854775808≤a) (ha:a≤9223372036854775807) (lb : -9223372036854775808≤b) (hb:b≤9223372036854775807) :
  Calls prog 207 #[iv x,iv a,iv b] w fun e w'=>e=.returned (.tuple #[iv (Pl.aV x a b),iv (Pl.aC x a b),.bool (Pl.fF x a b)])∧w'=w:=by
 cases kx:Pl.bit x
 ·have K:Hid (Pl.fF x a b=false):=hide (by simp [Pl.fF,kx])
  go_enter func207,ntmps207
  go_wp2_with fail
  refine (pY x _).mono ?_
  rintro e w' ⟨rfl,rfl⟩
  go_wp2_with fail
  go_ret3
  exact ⟨lX (by simp [Pl.aV,K.o]) (by simp [Pl.aC,K.o]) K.o.symm,rfl⟩
 ·cases ka:Pl.bcd a
  ·have K:Hid (Pl.fF x a b=false):=hide (by simp [Pl.fF,ka])
   go_enter func207,ntmps207
   go_wp2_with fail
   refine (pY x _).mono ?_
   rintro e w' ⟨rfl,rfl⟩
   go_wp2_with fail
   refine (qP a _ la ha).mono ?_
   rintro e w' ⟨rfl,rfl⟩
   go_wp2_with fail
   go_ret3
   exact ⟨lX (by simp [Pl.aV,K.o]) (by simp [Pl.aC,K.o]) K.o.symm,rfl⟩
  ·cases kb:Pl.bcd b
   ·have K:Hid (Pl.fF x a b=false):=hide (by simp [Pl.fF,kb])
    go_enter func207,ntmps207
    go_wp2_with fail
    refine (pY x _).mono ?_
    rintro e w' ⟨rfl,rfl⟩
    go_wp2_with fail
    refine (qP a _ la ha).mono ?_
    rintro e w' ⟨rfl,rfl⟩
    go_wp2_with fail
    refine (qP b _ lb hb).mono ?_
    rintro e w' ⟨rfl,rfl⟩
    go_wp2_with fail
    go_ret3
    exact ⟨lX (by simp [Pl.aV,K.o]) (by simp [Pl.aC,K.o]) K.o.symm,rfl⟩
   ·obtain ⟨x0,x1⟩:=Pl.ui kx
    have K:Hid (Pl.fF x a b=true):=hide (by simp [Pl.fF,kx,ka,kb])
    go_enter func207,ntmps207
    go_wp2_with fail
    refine (pY x _).mono ?_
    rintro e w' ⟨rfl,rfl⟩
    go_wp2_with fail
    refine (qP a _ la ha).mono ?_
    rintro e w' ⟨rfl,rfl⟩
    go_wp2_with fail
    refine (qP b _ lb hb).mono ?_
    rintro e w' ⟨rfl,rfl⟩
    go_wp2_with fail
    refine (uX x a b _ ht x0 x1 ka kb).mono ?_
    rintro e w' ⟨rfl,rfl⟩
    go_wp2_with fail
    go_ret3
    exact ⟨lX rfl rfl K.o.symm,rfl⟩
theorem Pl.AY {x a b:Int} (x0:0≤x) (x1:x≤1) (ka:Pl.bcd a=true) (kb:Pl.bcd b=true) :
  Pl.bcd (Pl.ug b)=true∧Pl.aV (1-x) a (Pl.ug b)=Pl.sV x a b∧1-Pl.aC (1-x) a (Pl.ug b)=Pl.sC x a b:=by
 have nb:=Pl.lY kb
 have na:=Pl.lY ka
 have ec:Pl.ug b=Pl.ofN (99-Pl.num b):=by simp [Pl.ug,kb]
 have kc:Pl.bcd (Pl.ug b)=true:=by rw [ec];exact Pl.xY (by omega) (by omega)
 have nc:Pl.num (Pl.ug b)=99-Pl.num b:=by rw [ec];exact Pl.Oh (by omega) (by omega)
 have k1:Pl.fF (1-x) a (Pl.ug b)=true:=Pl.lH (by omega) (by omega) ka kc
 have k2:Pl.fF x a b=true:=Pl.lH x0 x1 ka kb
 refine ⟨kc,?_,?_⟩
 ·rw [Pl.Es k1,Pl.Il k2,nc,Pl.CG]
  congr 1
  split<;>omega
 ·rw [Pl.Et k1,Pl.QD k2,nc,Pl.Ld]
  split<;>omega
theorem RU (x a b:Int) (w:World) (ht:nH w) (hn:qN w) (lx : -9223372036854775808≤x) (hx:x≤9223372036854775807) (la : -9223372036854775808≤a) (ha:a≤9223372036854775807) (lb : -9223372036854775808≤b) (hb:b≤9223372036854775807) :
  Calls prog 208 #[iv x,iv a,iv b] w fun e w'=>e=.returned (.tuple #[iv (Pl.sV x a b),iv (Pl.sC x a b),.bool (Pl.fF x a b)])∧∃n,w'=w.drewN n:=by
 cases kx:Pl.bit x
 ·have K:Hid (Pl.fF x a b=false):=hide (by simp [Pl.fF,kx])
  go_enter func208,ntmps208
  go_wp2_with fail
  refine (pY x _).mono ?_
  rintro e w' ⟨rfl,rfl⟩
  go_wp2_with fail
  go_ret3
  exact ⟨lX (by simp [Pl.sV,K.o]) (by simp [Pl.sC,K.o]) K.o.symm,0,rfl⟩
 ·cases ka:Pl.bcd a
  ·have K:Hid (Pl.fF x a b=false):=hide (by simp [Pl.fF,ka])
   go_enter func208,ntmps208
   go_wp2_with fail
   refine (pY x _).mono ?_
   rintro e w' ⟨rfl,rfl⟩
   go_wp2_with fail
   refine (qP a _ la ha).mono ?_
   rintro e w' ⟨rfl,rfl⟩
   go_wp2_with fail
   go_ret3
   exact ⟨lX (by simp [Pl.sV,K.o]) (by simp [Pl.sC,K.o]) K.o.symm,0,rfl⟩
  ·cases kb:Pl.bcd b
   ·have K:Hid (Pl.fF x a b=false):=hide (by simp [Pl.fF,kb])
    go_enter func208,ntmps208
    go_wp2_with fail
    refine (pY x _).mono ?_
    rintro e w' ⟨rfl,rfl⟩
    go_wp2_with fail
    refine (qP a _ la ha).mono ?_
    rintro e w' ⟨rfl,rfl⟩
    go_wp2_with fail
    refine (qP b _ lb hb).mono ?_
    rintro e w' ⟨rfl,rfl⟩
    go_wp2_with fail
    go_ret3
    exact ⟨lX (by simp [Pl.sV,K.o]) (by simp [Pl.sC,K.o]) K.o.symm,0,rfl⟩
   ·obtain ⟨x0,x1⟩:=Pl.ui kx
    have K:Hid (Pl.fF x a b=true):=hide (by simp [Pl.fF,kx,ka,kb])
    obtain ⟨kc,e1,e2⟩:=Pl.AY x0 x1 ka kb
    obtain ⟨c0,c1⟩:=Pl.Ar (1-x) a (Pl.ug b)
    have E1:=hide e1
    have E2:=hide e2
    clear e1 e2
    go_enter func208,ntmps208
    go_wp2_with fail
    refine (pY x _).mono ?_
    rintro e w' ⟨rfl,rfl⟩
    go_wp2_with fail
    refine (qP a _ la ha).mono ?_
    rintro e w' ⟨rfl,rfl⟩
    go_wp2_with fail
    refine (qP b _ lb hb).mono ?_
    rintro e w' ⟨rfl,rfl⟩
    go_wp2_with fail
    refine (rW b _ hn kb).mono ?_
    rintro e w' ⟨rfl,n,rfl⟩
    go_wp2_with fail
    refine (uX (1-x) a (Pl.ug b) _ (ht.drewN n) (by omega) (by omega) ka kc).mono ?_
    rintro e w' ⟨rfl,rfl⟩
    go_wp2_with fail
    go_ret3
    exact ⟨lX E1.o E2.o K.o.symm,n,rfl⟩
end Go.Proofs.YtkkmnnhaailkcaaGreatDoor
