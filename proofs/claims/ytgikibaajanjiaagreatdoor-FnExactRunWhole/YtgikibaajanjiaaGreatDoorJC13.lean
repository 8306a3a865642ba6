/- Part 13 of what the last text leans on. -/
import Derived.Test.YtgikibaajanjiaaGreatDoorJC12
import Derived.Test.YtgikibaajanjiaaGreatDoorJC11
import Derived.Test.YtgikibaajanjiaaGreatDoorJC1
import Derived.Below
import Derived.Laws.Rows
import Derived.Laws.ResultCell
import Derived.Test.YtgikibaajanjiaaGreatDoorJC2
import Derived.Test.YtgikibaajanjiaaGreatDoorJC9
import Derived.RegionTactic
import Derived.ChangeAlike
import Derived.BigRegion
import Derived.Deep.RegionWith
import Derived.Test.YtgikibaajanjiaaGreatDoorJC3
import Derived.StillTailTactics
import Derived.BigQuiet
import Derived.Deep.QuietTactic
import Derived.Test.YtgikibaajanjiaaGreatDoorJC7
set_option maxRecDepth 100000
set_option maxHeartbeats 16000000
namespace Go.Proofs.YtgikibaajanjiaaGreatDoor
open Pl
open Go.RowKit Go.Proofs.Tryz
set_option linter.unusedVariables false
theorem bQ (f:Ft) (w:World):Calls prog 79 #[.agg (ftA f)] w fun e w'=>e=.returned (.bool (f.v != 0))∧Kept 0 0 w w':=by
 go_enter func79,ntmps79;go_wp2;go_ret;exact ⟨rfl,kept_alloc _ _⟩
theorem QT {w:World} {q:Nat} {k s a v c:Int} {ty:TypeId} (h:Blk w q #[iv k,iv s,iv a,iv v,iv c] ty):w.cell? (aac q 0)=some (iv k)∧w.cell? (aac q 1)=some (iv s)∧w.cell? (aac q 2)=some (iv a)∧w.cell? (aac q 3)=some (iv v)∧w.cell? (aac q 4)=some (iv c):=
 ⟨h.cell (i:=0) rfl,h.cell (i:=1) rfl,h.cell (i:=2) rfl,h.cell (i:=3) rfl,h.cell (i:=4) rfl⟩
variable (w:World) (lo b g:Nat) (c:Mc) (h:Hl)
theorem jS (k s a v:Int) (hC:CAt w lo b g c h) (G:GM c) (hask:eP k s a v=true) (V:Int) (HV:Hid (V=if k=2 then 0 else Pl.lv c.bx k s a v)) (F:Ft) (HF:Hid (F=Mc.dm aG k s a)) :
  Calls prog 187 #[.pointer (some (aac b 0)),.agg #[iv k,iv s,iv a,iv v,iv 0]] w fun e w'=>∃g',e=.returned (.tuple #[iv V,.agg (ftC F)])∧CAt w' lo b g' (c.acc k s a v) h∧Since w b (b+1) g w' g':=by
 obtain ⟨l0,l1,l2,l3,l4⟩:=hC.lt;have HC:=aab ((hC.alloc (.cells #[iv k,iv s,iv a,iv v,iv 0] 179)).alloc (.cells (ftC aG) 42));have A0:=aab ((Blk.new w #[iv k,iv s,iv a,iv v,iv 0] 179).alloc (.cells (ftC aG) 42));have F0:=Blk.new (w.alloc (.cells #[iv k,iv s,iv a,iv v,iv 0] 179)) (ftC aG) 42;simp only [World.size_alloc] at F0;replace F0:=aab F0;have K0:=aab (ag (kept_alloc w (.cells #[iv k,iv s,iv a,iv v,iv 0] 179)) (.cells (ftC aG) 42));have HG:=aab G;have wP:=aab hask;clear hC G hask;obtain ⟨X,hX⟩:∃X:World,(w.alloc (.cells #[iv k,iv s,iv a,iv v,iv 0] 179)).alloc (.cells (ftC aG) 42)=X:=⟨_,rfl⟩
 rw [hX] at HC A0 F0 K0;obtain ⟨a0,a1,a2,a3,a4⟩:=QT A0.o;have hX':(w.alloc (.cells #[iv k,iv s,iv a,iv v,iv 0] 179)).alloc (.cells ftZ 42)=X:=hX;clear hX;go_enter func187,ntmps187;go_wp2_with fail;clear hX'
 go_region_held3 (fun w'=>w'.cell? (aac w.heap.size 0)=some (iv k)∧w'.cell? (aac w.heap.size 1)=some (iv s)∧w'.cell? (aac w.heap.size 2)=some (iv a)∧w'.cell? (aac w.heap.size 3)=some (iv v)∧w'.cell? (aac w.heap.size 4)=some (iv 0)) (first|exact QT A3.o|exact QT (show Blk _ _ _ _ from A0.o)|go_keep)
  (first|(go_at_call 236;refine (Ql _ lo b g c h k s a v V HC.o.drew HG.o wP.o HV).mono ?_;rintro e w3 ⟨g',rfl,hc3,hs3⟩;have C3:=aab hc3;have S3:=aab (((Since.refl w b (b+1) g).any (ah K0.o)).trans hs3);have A3:=aab (hs3.blk (show Blk X.drew _ _ _ from A0.o) (by omega) (by omega));have F3:=aab (hs3.blk (show Blk X.drew _ _ _ from F0.o) (by omega) (by omega));have n3:=hs3.ne (b:=w.heap.size+1) F0.o.lt (by omega);clear hc3 hs3))
 clear a0 a1 a2 a3 a4;obtain ⟨a0,a1,a2,a3,a4⟩:=QT A3.o;have p:=(show Blk w3 (w.heap.size+1) ftZ 42 from F3.o).all;have z:=F3.o.fz;obtain ⟨C,hCd⟩:∃C,C=Pl.code k s a:=⟨_,rfl⟩
 rw [<-hCd];unfold Mc.dm at HF;rw [<-hCd] at HF
 have V0:Hid (¬C=0->V=0):=aab (by
  intro hn;rw [HV.o];split
  ·rfl
  ·rename_i h2;obtain ⟨_,_,_,_,h5⟩:=qF wP.o;rw [show v=0 by omega];unfold Pl.lv
   rw [if_neg (by rw [<-hCd];exact fun q=>hn q.1)])
 clear hCd HV;cases h0:(C==0)
 ·have EV:=aab (V0.o (by simpa using h0));have e1:(C != 0)=true:=by simpa using h0
  rw [e1] at HF;cases h2:(C==2)
  ·rw [h2] at HF;have q:F=⟨2,0,a,0,k==2⟩:=HF.o;subst q;clear HF e1;go_wp2_with fail;go_region;go_wp2_with fail;have K5:=ah (((((ak w3 (w.heap.size+1) 0 (iv 2)).one 1 (iv 0)).one 2 (iv a)).one 3 (iv 0)).one 4 (.bool (k==2)));refine bodyPost_ret (v:=.tuple #[iv 0,.agg #[iv 2,iv 0,iv a,iv 0,.bool (k==2)]]) ?_ rfl ⟨g',by rw [EV.o];rfl,C3.o.kept K5 (by omega) (by omega),S3.o.mine K5 (by omega)⟩;rw [gJ rfl];go_simp
  ·rw [h2] at HF;have q:F=⟨3,0,a,0,k==2⟩:=HF.o;subst q;clear HF e1;go_wp2_with fail;go_region;go_wp2_with fail;have K5:=ah (((((ak w3 (w.heap.size+1) 0 (iv 3)).one 1 (iv 0)).one 2 (iv a)).one 3 (iv 0)).one 4 (.bool (k==2)));refine bodyPost_ret (v:=.tuple #[iv 0,.agg #[iv 3,iv 0,iv a,iv 0,.bool (k==2)]]) ?_ rfl ⟨g',by rw [EV.o];rfl,C3.o.kept K5 (by omega) (by omega),S3.o.mine K5 (by omega)⟩;rw [gJ rfl];go_simp
 ·have e1:(C != 0)=false:=by simpa using h0
  rw [e1] at HF;have q:F=aG:=HF.o;subst q;clear HF e1;go_wp2_with fail;have K5:=((((ak w3 (w.heap.size+1) 0 (iv 0)).one 1 (iv 0)).one 2 (iv 0)).one 3 (iv 0)).one 4 (.bool false);refine bodyPost_ret (v:=.tuple #[iv V,.agg ftZ]) ?_ rfl ⟨g',rfl,C3.o.kept K5 (by omega) (by omega),S3.o.mine K5 (by omega)⟩;rw [gJ rfl];go_simp
theorem AZ (k e:Int) (w:World):Calls prog 168 #[.agg #[iv 0,iv k,iv e]] w fun r w'=>r=.returned (.iface 228 (.agg #[iv k]))∧Kept 0 0 w w':=by
 go_enter func168,ntmps168;go_wp2;go_ret;exact ⟨rfl,kept_alloc w _⟩
theorem AY (k e:Int) (w:World):Calls prog 168 #[.agg #[iv 1,iv k,iv e]] w fun r w'=>r=.returned (.iface 229 (.agg #[iv k]))∧Kept 0 0 w w':=by
 go_enter func168,ntmps168;go_wp2;go_ret;exact ⟨rfl,kept_alloc w _⟩
theorem AX (k e:Int) (w:World):Calls prog 168 #[.agg #[iv 2,iv k,iv e]] w fun r w'=>r=.returned (.iface 230 (.agg #[iv k]))∧Kept 0 0 w w':=by
 go_enter func168,ntmps168;go_wp2;go_ret;exact ⟨rfl,kept_alloc w _⟩
theorem AV (k e:Int) (w:World):Calls prog 168 #[.agg #[iv 3,iv k,iv e]] w fun r w'=>r=.returned (.iface 231 (.agg #[iv k]))∧Kept 0 0 w w':=by
 go_enter func168,ntmps168;go_wp2;go_ret;exact ⟨rfl,kept_alloc w _⟩
theorem AU (k e:Int) (w:World):Calls prog 168 #[.agg #[iv 4,iv k,iv e]] w fun r w'=>r=.returned (.iface 232 (.agg #[iv k]))∧Kept 0 0 w w':=by
 go_enter func168,ntmps168;go_wp2;go_ret;exact ⟨rfl,kept_alloc w _⟩
theorem AQ (k e:Int) (w:World):Calls prog 168 #[.agg #[iv 5,iv k,iv e]] w fun r w'=>r=.returned (.iface 234 (.agg #[iv k,iv e]))∧Kept 0 0 w w':=by
 go_enter func168,ntmps168;go_wp2;go_ret;exact ⟨rfl,kept_alloc w _⟩
theorem AP (k e:Int) (w:World):Calls prog 168 #[.agg #[iv 6,iv k,iv e]] w fun r w'=>r=.returned (.iface 236 (.agg #[iv e]))∧Kept 0 0 w w':=by
 go_enter func168,ntmps168;go_wp2;go_ret;exact ⟨rfl,kept_alloc w _⟩
theorem AO (k e:Int) (w:World):Calls prog 168 #[.agg #[iv 7,iv k,iv e]] w fun r w'=>r=.returned (.iface 237 (.agg #[iv e]))∧Kept 0 0 w w':=by
 go_enter func168,ntmps168;go_wp2;go_ret;exact ⟨rfl,kept_alloc w _⟩
theorem Dc (m k e:Int) (w:World) (h:bI m=false):Calls prog 168 #[.agg #[iv m,iv k,iv e]] w fun r w'=>r=.returned .nilIface∧Kept 0 0 w w':=by
 obtain ⟨n0,n1,n2,n3,n4,n5,n6,n7⟩:¬m=0∧¬m=1∧¬m=2∧¬m=3∧¬m=4∧¬m=5∧¬m=6∧¬m=7:=by
  simp [bI,within] at h;omega
 go_enter func168,ntmps168;go_wp2;go_ret;exact ⟨rfl,kept_alloc w _⟩
theorem Je (k e:Int) (w:World):Calls prog 339 #[.agg #[iv k]] w fun r w'=>r=.returned (.agg #[iv 0,iv k,iv 0])∧Kept 0 0 w w':=by
 go_enter func339,ntmps339;go_wp2;refine bodyPost_ret (v:=.agg #[iv 0,iv k,iv 0]) ?_ rfl ⟨rfl,ag (kept_alloc w _) _⟩;rw [aj rfl];go_simp
theorem Jd (k e:Int) (w:World):Calls prog 340 #[.agg #[iv k]] w fun r w'=>r=.returned (.agg #[iv 1,iv k,iv 0])∧Kept 0 0 w w':=by
 go_enter func340,ntmps340;go_wp2;refine bodyPost_ret (v:=.agg #[iv 1,iv k,iv 0]) ?_ rfl ⟨rfl,ag (kept_alloc w _) _⟩;rw [aj rfl];go_simp
theorem Jc (k e:Int) (w:World):Calls prog 341 #[.agg #[iv k]] w fun r w'=>r=.returned (.agg #[iv 2,iv k,iv 0])∧Kept 0 0 w w':=by
 go_enter func341,ntmps341;go_wp2;refine bodyPost_ret (v:=.agg #[iv 2,iv k,iv 0]) ?_ rfl ⟨rfl,ag (kept_alloc w _) _⟩;rw [aj rfl];go_simp
theorem Jb (k e:Int) (w:World):Calls prog 342 #[.agg #[iv k]] w fun r w'=>r=.returned (.agg #[iv 3,iv k,iv 0])∧Kept 0 0 w w':=by
 go_enter func342,ntmps342;go_wp2;refine bodyPost_ret (v:=.agg #[iv 3,iv k,iv 0]) ?_ rfl ⟨rfl,ag (kept_alloc w _) _⟩;rw [aj rfl];go_simp
theorem Ja (k e:Int) (w:World):Calls prog 343 #[.agg #[iv k]] w fun r w'=>r=.returned (.agg #[iv 4,iv k,iv 0])∧Kept 0 0 w w':=by
 go_enter func343,ntmps343;go_wp2;refine bodyPost_ret (v:=.agg #[iv 4,iv k,iv 0]) ?_ rfl ⟨rfl,ag (kept_alloc w _) _⟩;rw [aj rfl];go_simp
theorem IZ (k e:Int) (w:World):Calls prog 344 #[.agg #[iv k,iv e]] w fun r w'=>r=.returned (.agg #[iv 5,iv k,iv e])∧Kept 0 0 w w':=by
 go_enter func344,ntmps344;go_wp2;refine bodyPost_ret (v:=.agg #[iv 5,iv k,iv e]) ?_ rfl ⟨rfl,ag (kept_alloc w _) _⟩;rw [aj rfl];go_simp
theorem IY (k e:Int) (w:World):Calls prog 345 #[.agg #[iv e]] w fun r w'=>r=.returned (.agg #[iv 6,iv 0,iv e])∧Kept 0 0 w w':=by
 go_enter func345,ntmps345;go_wp2;refine bodyPost_ret (v:=.agg #[iv 6,iv 0,iv e]) ?_ rfl ⟨rfl,ag (kept_alloc w _) _⟩;rw [aj rfl];go_simp
theorem IX (k e:Int) (w:World):Calls prog 346 #[.agg #[iv e]] w fun r w'=>r=.returned (.agg #[iv 7,iv 0,iv e])∧Kept 0 0 w w':=by
 go_enter func346,ntmps346;go_wp2;refine bodyPost_ret (v:=.agg #[iv 7,iv 0,iv e]) ?_ rfl ⟨rfl,ag (kept_alloc w _) _⟩;rw [aj rfl];go_simp
theorem fn0 (a:Array Value) (w:World):(callFunc 339 a).run prog w=.ok (.enter 339 a) w:=by kernel_rfl
theorem WE (v:Value) (w:World):(method 412 228 v "loop.example/g00389/impl.operand").run prog w=.ok (339,v) w:=by kernel_rfl
theorem fn1 (a:Array Value) (w:World):(callFunc 340 a).run prog w=.ok (.enter 340 a) w:=by kernel_rfl
theorem WB (v:Value) (w:World):(method 412 229 v "loop.example/g00389/impl.operand").run prog w=.ok (340,v) w:=by kernel_rfl
theorem fn2 (a:Array Value) (w:World):(callFunc 341 a).run prog w=.ok (.enter 341 a) w:=by kernel_rfl
theorem Wy (v:Value) (w:World):(method 412 230 v "loop.example/g00389/impl.operand").run prog w=.ok (341,v) w:=by kernel_rfl
theorem fn3 (a:Array Value) (w:World):(callFunc 342 a).run prog w=.ok (.enter 342 a) w:=by kernel_rfl
theorem Wx (v:Value) (w:World):(method 412 231 v "loop.example/g00389/impl.operand").run prog w=.ok (342,v) w:=by kernel_rfl
theorem fn4 (a:Array Value) (w:World):(callFunc 343 a).run prog w=.ok (.enter 343 a) w:=by kernel_rfl
theorem Wv (v:Value) (w:World):(method 412 232 v "loop.example/g00389/impl.operand").run prog w=.ok (343,v) w:=by kernel_rfl
theorem fn5 (a:Array Value) (w:World):(callFunc 344 a).run prog w=.ok (.enter 344 a) w:=by kernel_rfl
theorem Wu (v:Value) (w:World):(method 412 234 v "loop.example/g00389/impl.operand").run prog w=.ok (344,v) w:=by kernel_rfl
theorem fn6 (a:Array Value) (w:World):(callFunc 345 a).run prog w=.ok (.enter 345 a) w:=by kernel_rfl
theorem Ws (v:Value) (w:World):(method 412 236 v "loop.example/g00389/impl.operand").run prog w=.ok (345,v) w:=by kernel_rfl
theorem fn7 (a:Array Value) (w:World):(callFunc 346 a).run prog w=.ok (.enter 346 a) w:=by kernel_rfl
theorem Wq (v:Value) (w:World):(method 412 237 v "loop.example/g00389/impl.operand").run prog w=.ok (346,v) w:=by kernel_rfl
theorem YN (v:Value) (w:World):(Instr.typeAssert (.iface 228 v) 196 230 true).run prog w=.ok (.tuple #[.agg #[iv 0],.bool false]) w:=by kernel_rfl
theorem YM (v:Value) (w:World):(Instr.typeAssert (.iface 228 v) 196 231 true).run prog w=.ok (.tuple #[.agg #[iv 0],.bool false]) w:=by kernel_rfl
theorem YL (v:Value) (w:World):(Instr.typeAssert (.iface 228 v) 196 232 true).run prog w=.ok (.tuple #[.agg #[iv 0],.bool false]) w:=by kernel_rfl
theorem VN (v:Value) (w:World):(Instr.typeAssert (.iface 228 v) 196 234 true).run prog w=.ok (.tuple #[.agg #[iv 0,iv 0],.bool false]) w:=by kernel_rfl
theorem VM (v:Value) (w:World):(Instr.typeAssert (.iface 228 v) 196 236 true).run prog w=.ok (.tuple #[.agg #[iv 0],.bool false]) w:=by kernel_rfl
theorem YK (v:Value) (w:World):(Instr.typeAssert (.iface 228 v) 196 237 true).run prog w=.ok (.tuple #[.agg #[iv 0],.bool false]) w:=by kernel_rfl
theorem YJ (v:Value) (w:World):(Instr.typeAssert (.iface 229 v) 196 230 true).run prog w=.ok (.tuple #[.agg #[iv 0],.bool false]) w:=by kernel_rfl
theorem YI (v:Value) (w:World):(Instr.typeAssert (.iface 229 v) 196 231 true).run prog w=.ok (.tuple #[.agg #[iv 0],.bool false]) w:=by kernel_rfl
theorem YH (v:Value) (w:World):(Instr.typeAssert (.iface 229 v) 196 232 true).run prog w=.ok (.tuple #[.agg #[iv 0],.bool false]) w:=by kernel_rfl
theorem VL (v:Value) (w:World):(Instr.typeAssert (.iface 229 v) 196 234 true).run prog w=.ok (.tuple #[.agg #[iv 0,iv 0],.bool false]) w:=by kernel_rfl
theorem VK (v:Value) (w:World):(Instr.typeAssert (.iface 229 v) 196 236 true).run prog w=.ok (.tuple #[.agg #[iv 0],.bool false]) w:=by kernel_rfl
theorem YG (v:Value) (w:World):(Instr.typeAssert (.iface 229 v) 196 237 true).run prog w=.ok (.tuple #[.agg #[iv 0],.bool false]) w:=by kernel_rfl
theorem YF (v:Value) (w:World):(Instr.typeAssert (.iface 230 v) 196 230 true).run prog w=.ok (.tuple #[v,.bool true]) w:=by kernel_rfl
theorem YE (v:Value) (w:World):(Instr.typeAssert (.iface 230 v) 196 231 true).run prog w=.ok (.tuple #[.agg #[iv 0],.bool false]) w:=by kernel_rfl
theorem YD (v:Value) (w:World):(Instr.typeAssert (.iface 230 v) 196 232 true).run prog w=.ok (.tuple #[.agg #[iv 0],.bool false]) w:=by kernel_rfl
theorem VJ (v:Value) (w:World):(Instr.typeAssert (.iface 230 v) 196 234 true).run prog w=.ok (.tuple #[.agg #[iv 0,iv 0],.bool false]) w:=by kernel_rfl
theorem VI (v:Value) (w:World):(Instr.typeAssert (.iface 230 v) 196 236 true).run prog w=.ok (.tuple #[.agg #[iv 0],.bool false]) w:=by kernel_rfl
theorem YC (v:Value) (w:World):(Instr.typeAssert (.iface 230 v) 196 237 true).run prog w=.ok (.tuple #[.agg #[iv 0],.bool false]) w:=by kernel_rfl
theorem YB (v:Value) (w:World):(Instr.typeAssert (.iface 231 v) 196 230 true).run prog w=.ok (.tuple #[.agg #[iv 0],.bool false]) w:=by kernel_rfl
theorem YA (v:Value) (w:World):(Instr.typeAssert (.iface 231 v) 196 231 true).run prog w=.ok (.tuple #[v,.bool true]) w:=by kernel_rfl
theorem Yz (v:Value) (w:World):(Instr.typeAssert (.iface 231 v) 196 232 true).run prog w=.ok (.tuple #[.agg #[iv 0],.bool false]) w:=by kernel_rfl
theorem VH (v:Value) (w:World):(Instr.typeAssert (.iface 231 v) 196 234 true).run prog w=.ok (.tuple #[.agg #[iv 0,iv 0],.bool false]) w:=by kernel_rfl
theorem VG (v:Value) (w:World):(Instr.typeAssert (.iface 231 v) 196 236 true).run prog w=.ok (.tuple #[.agg #[iv 0],.bool false]) w:=by kernel_rfl
theorem Yy (v:Value) (w:World):(Instr.typeAssert (.iface 231 v) 196 237 true).run prog w=.ok (.tuple #[.agg #[iv 0],.bool false]) w:=by kernel_rfl
theorem Yx (v:Value) (w:World):(Instr.typeAssert (.iface 232 v) 196 230 true).run prog w=.ok (.tuple #[.agg #[iv 0],.bool false]) w:=by kernel_rfl
theorem Yw (v:Value) (w:World):(Instr.typeAssert (.iface 232 v) 196 231 true).run prog w=.ok (.tuple #[.agg #[iv 0],.bool false]) w:=by kernel_rfl
theorem Yv (v:Value) (w:World):(Instr.typeAssert (.iface 232 v) 196 232 true).run prog w=.ok (.tuple #[v,.bool true]) w:=by kernel_rfl
theorem VF (v:Value) (w:World):(Instr.typeAssert (.iface 232 v) 196 234 true).run prog w=.ok (.tuple #[.agg #[iv 0,iv 0],.bool false]) w:=by kernel_rfl
theorem VE (v:Value) (w:World):(Instr.typeAssert (.iface 232 v) 196 236 true).run prog w=.ok (.tuple #[.agg #[iv 0],.bool false]) w:=by kernel_rfl
theorem Yu (v:Value) (w:World):(Instr.typeAssert (.iface 232 v) 196 237 true).run prog w=.ok (.tuple #[.agg #[iv 0],.bool false]) w:=by kernel_rfl
theorem Yt (v:Value) (w:World):(Instr.typeAssert (.iface 234 v) 196 230 true).run prog w=.ok (.tuple #[.agg #[iv 0],.bool false]) w:=by kernel_rfl
theorem Yr (v:Value) (w:World):(Instr.typeAssert (.iface 234 v) 196 231 true).run prog w=.ok (.tuple #[.agg #[iv 0],.bool false]) w:=by kernel_rfl
theorem Yq (v:Value) (w:World):(Instr.typeAssert (.iface 234 v) 196 232 true).run prog w=.ok (.tuple #[.agg #[iv 0],.bool false]) w:=by kernel_rfl
theorem VD (v:Value) (w:World):(Instr.typeAssert (.iface 234 v) 196 234 true).run prog w=.ok (.tuple #[v,.bool true]) w:=by kernel_rfl
theorem VC (v:Value) (w:World):(Instr.typeAssert (.iface 234 v) 196 236 true).run prog w=.ok (.tuple #[.agg #[iv 0],.bool false]) w:=by kernel_rfl
theorem Yp (v:Value) (w:World):(Instr.typeAssert (.iface 234 v) 196 237 true).run prog w=.ok (.tuple #[.agg #[iv 0],.bool false]) w:=by kernel_rfl
theorem Yo (v:Value) (w:World):(Instr.typeAssert (.iface 236 v) 196 230 true).run prog w=.ok (.tuple #[.agg #[iv 0],.bool false]) w:=by kernel_rfl
theorem Yn (v:Value) (w:World):(Instr.typeAssert (.iface 236 v) 196 231 true).run prog w=.ok (.tuple #[.agg #[iv 0],.bool false]) w:=by kernel_rfl
theorem Ym (v:Value) (w:World):(Instr.typeAssert (.iface 236 v) 196 232 true).run prog w=.ok (.tuple #[.agg #[iv 0],.bool false]) w:=by kernel_rfl
theorem VB (v:Value) (w:World):(Instr.typeAssert (.iface 236 v) 196 234 true).run prog w=.ok (.tuple #[.agg #[iv 0,iv 0],.bool false]) w:=by kernel_rfl
theorem Vz (v:Value) (w:World):(Instr.typeAssert (.iface 236 v) 196 236 true).run prog w=.ok (.tuple #[v,.bool true]) w:=by kernel_rfl
theorem Yl (v:Value) (w:World):(Instr.typeAssert (.iface 236 v) 196 237 true).run prog w=.ok (.tuple #[.agg #[iv 0],.bool false]) w:=by kernel_rfl
theorem Yk (v:Value) (w:World):(Instr.typeAssert (.iface 237 v) 196 230 true).run prog w=.ok (.tuple #[.agg #[iv 0],.bool false]) w:=by kernel_rfl
theorem Yj (v:Value) (w:World):(Instr.typeAssert (.iface 237 v) 196 231 true).run prog w=.ok (.tuple #[.agg #[iv 0],.bool false]) w:=by kernel_rfl
theorem Yi (v:Value) (w:World):(Instr.typeAssert (.iface 237 v) 196 232 true).run prog w=.ok (.tuple #[.agg #[iv 0],.bool false]) w:=by kernel_rfl
theorem Vy (v:Value) (w:World):(Instr.typeAssert (.iface 237 v) 196 234 true).run prog w=.ok (.tuple #[.agg #[iv 0,iv 0],.bool false]) w:=by kernel_rfl
theorem Vx (v:Value) (w:World):(Instr.typeAssert (.iface 237 v) 196 236 true).run prog w=.ok (.tuple #[.agg #[iv 0],.bool false]) w:=by kernel_rfl
theorem Yh (v:Value) (w:World):(Instr.typeAssert (.iface 237 v) 196 237 true).run prog w=.ok (.tuple #[v,.bool true]) w:=by kernel_rfl
theorem PH (v:Value) (w:World):Calls prog 234 #[.iface 228 v] w fun r w'=>r=.returned (.bool false)∧w'=w:=by
 have t5:=VN;have t6:=VM;have t7:=YK;go_enter func234,ntmps234;go_wp2;go_ret;exact ⟨rfl,rfl⟩
theorem PG (v:Value) (w:World):Calls prog 234 #[.iface 229 v] w fun r w'=>r=.returned (.bool false)∧w'=w:=by
 have t5:=VL;have t6:=VK;have t7:=YG;go_enter func234,ntmps234;go_wp2;go_ret;exact ⟨rfl,rfl⟩
theorem PE (v:Value) (w:World):Calls prog 234 #[.iface 230 v] w fun r w'=>r=.returned (.bool false)∧w'=w:=by
 have t5:=VJ;have t6:=VI;have t7:=YC;go_enter func234,ntmps234;go_wp2;go_ret;exact ⟨rfl,rfl⟩
theorem PD (v:Value) (w:World):Calls prog 234 #[.iface 231 v] w fun r w'=>r=.returned (.bool false)∧w'=w:=by
 have t5:=VH;have t6:=VG;have t7:=Yy;go_enter func234,ntmps234;go_wp2;go_ret;exact ⟨rfl,rfl⟩
theorem Pz (v:Value) (w:World):Calls prog 234 #[.iface 232 v] w fun r w'=>r=.returned (.bool false)∧w'=w:=by
 have t5:=VF;have t6:=VE;have t7:=Yu;go_enter func234,ntmps234;go_wp2;go_ret;exact ⟨rfl,rfl⟩
theorem Py (v:Value) (w:World):Calls prog 234 #[.iface 234 v] w fun r w'=>r=.returned (.bool true)∧w'=w:=by
 have t5:=VD;have t6:=VC;have t7:=Yp;go_enter func234,ntmps234;go_wp2;go_ret;exact ⟨rfl,rfl⟩
theorem Px (v:Value) (w:World):Calls prog 234 #[.iface 236 v] w fun r w'=>r=.returned (.bool true)∧w'=w:=by
 have t5:=VB;have t6:=Vz;have t7:=Yl;go_enter func234,ntmps234;go_wp2;go_ret;exact ⟨rfl,rfl⟩
theorem Pv (v:Value) (w:World):Calls prog 234 #[.iface 237 v] w fun r w'=>r=.returned (.bool true)∧w'=w:=by
 have t5:=Vy;have t6:=Vx;have t7:=Yh;go_enter func234,ntmps234;go_wp2;go_ret;exact ⟨rfl,rfl⟩
def W64 (n:Int):Prop := -9223372036854775808<=n∧n<=9223372036854775807
set_option linter.unusedSimpArgs false
theorem iw (a:Addr) (fn:Fn) (m:Mode) (w:World):(store a (.func fn #[] #[]) m).run prog w=stored prog w a (.func fn #[] #[]) m:=run_store prog w a _ m rfl
theorem nS {B:Nat} {w wt:World} (h:Below B w.drew wt):Below B w wt:=⟨h.os,h.tape,h.output,h.size,h.block⟩
def Box (w:World) (b:Nat) (v s x f:Int) (t:Bool):Prop:=w.heap[b]? = some (.cells #[iv v,iv s,iv x,iv f,.bool t] 273)
theorem Box.later {w wt:World} {b:Nat} {v s x f:Int} {t:Bool} (h:Box w b v s x f t) (hb:Below w.heap.size w wt):Box wt b v s x f t:=by
 have lt:b<w.heap.size:=by
  unfold Box at h;rcases Nat.lt_or_ge b w.heap.size with h'|h'
  ·exact h'
  ·rw [Array.getElem?_eq_none h'] at h;cases h
 exact (hb.block b lt).trans h
theorem Box.cells {w:World} {b:Nat} {v s x f:Int} {t:Bool} (h:Box w b v s x f t) :
  w.cell? (aac b 0)=some (iv v)∧w.cell? (aac b 1)=some (iv s)∧w.cell? (aac b 2)=some (iv x)∧w.cell? (aac b 3)=some (iv f)∧w.cell? (aac b 4)=some (.bool t)∧
  w.frozen? (aac b 0)=false∧w.frozen? (aac b 1)=false∧w.frozen? (aac b 2)=false∧w.frozen? (aac b 3)=false∧w.frozen? (aac b 4)=false:=by
 unfold Box at h;refine ⟨?_,?_,?_,?_,?_,?_,?_,?_,?_,?_⟩<;>simp [World.cell?,World.frozen?,h]
theorem gB {fn:Func} {p:Tmp} (h:fn.results=#[.cell p 273]) (tmps:Array Value) {w:World} {b:Nat} {v s x f:Int} {t:Bool} (hp:tmps.getD p undef=.pointer (some (aac b 0))) (hB:Box w b v s x f t) :
  (results fn tmps).run prog w=.ok (.agg #[iv v,iv s,iv x,iv f,.bool t]) w:=
 results_cell_row h tmps w b _ _ _ _ hp hB (underlying273) rfl (by kernel_rfl)
theorem Box.set {w:World} {b:Nat} {v s x f v' s' x' f':Int} {t t':Bool} (h:Box w b v s x f t) :
  Box (((((w.setCell (aac b 0) (iv v')).setCell (aac b 1) (iv s')).setCell (aac b 2) (iv x')).setCell (aac b 3) (iv f')).setCell (aac b 4) (.bool t')) b v' s' x' f' t':=by
 unfold Box at h ⊢;simp [World.setCell,Array.getElem?_modify,h]
theorem Box.YW (w:World) (v s x f:Int) (t:Bool):Box (w.alloc (.cells #[iv v,iv s,iv x,iv f,.bool t] 273)) w.heap.size v s x f t:=heap_alloc_new w _
theorem Box.two {w:World} {b:Nat} {v s x f:Int} {t:Bool} (h:Box w b v s x f t) (o1 o2:Obj):Box ((w.alloc o1).alloc o2) b v s x f t:=
 h.later (((Below.refl _ w).alloc (Nat.le_refl _) o1).alloc (by simp) o2)
theorem Box.YP {w:World} {b:Nat} {v s x f:Int} {t t':Bool} (h:Box w b v s x f t):Box (w.setCell (aac b 4) (.bool t')) b v s x f t':=by
 unfold Box at h ⊢;simp [World.setCell,Array.getElem?_modify,h]
theorem Below.nJ {B:Nat} {a w:World} (h:Below B a w) {b:Nat} (hb:B<=b) (v0 v1 v2 v3 v4:Value) :
  Below B a (((((w.setCell (aac b 0) v0).setCell (aac b 1) v1).setCell (aac b 2) v2).setCell (aac b 3) v3).setCell (aac b 4) v4):=
 ((((h.setCell hb _).setCell hb _).setCell hb _).setCell hb _).setCell hb _
theorem Box.zt (w:World) (v s x f:Int) (t:Bool) (o1:Obj) (o2:Obj):Box (((w.alloc (.cells #[iv v,iv s,iv x,iv f,.bool t] 273)).alloc o1).alloc o2) w.heap.size v s x f t:=by
 unfold Box;rw [Below.heap_alloc _ _ _ (by simp<;>omega),Below.heap_alloc _ _ _ (by simp)];exact heap_alloc_new w _
theorem Box.zq (w:World) (v s x f:Int) (t:Bool) (o1:Obj) (o2:Obj):Box (((w.alloc o1).alloc (.cells #[iv v,iv s,iv x,iv f,.bool t] 273)).alloc o2) (w.heap.size+1) v s x f t:=by
 unfold Box;rw [Below.heap_alloc _ _ _ (by simp)];exact heap_alloc2_new w _ _
theorem rA {a b c d a' b' c' d':Int} {t t':Bool} (ha:a=a') (hb:b=b') (hc:c=c') (hd:d=d') (ht:t=t'):Ending.returned (.agg #[iv a,iv b,iv c,iv d,.bool t])=.returned (.agg #[iv a',iv b',iv c',iv d',.bool t']):=by rw [ha,hb,hc,hd,ht]
theorem aN {fn:Func} {p:Tmp} {ty:TypeId} (h:fn.results=#[.cell p ty]) (tmps:Array Value) (P:Program) (w:World) :
  (results fn tmps).run P w=((asAddr (tmps.getD p undef)).run P w).andThen fun a w₁=>(loadVar ty a).run P w₁:=by
 simp only [results,h];simp [Sem.run_bind,Result.andThen]
theorem Pl.Du {a q:Int} (h0:0<=a) (h1:a<131072) (h2:a%2=0) (q0:0<=q) (q1:q<=1):bits .or .i64 a q=a+q:=
 bits_join .i64 62 (by decide) gY 1 a q (by omega) (by omega) (by omega) (by omega) (by omega) (by omega)
theorem lowest (v s x f:Int) (t:Bool) (w:World) :
  Calls prog 323 #[.agg #[iv v,iv s,iv x,iv f,.bool t]] w fun e w'=>e=.returned (iv (v%2))∧∃o,w'=w.alloc o:=by
 have hA:=and1 v;go_enter func323,ntmps323;go_wp2;go_ret;exact ⟨rfl,_,rfl⟩
theorem aU (v s x f:Int) (t:Bool) (w:World) :
  Calls prog 321 #[.agg #[iv v,iv s,iv x,iv f,.bool t]] w fun e w'=>e=.returned (.agg #[iv v,iv s,iv f,iv f,.bool t])∧∃o1 o2,w'=(w.alloc o1).alloc o2:=by
 go_enter func321,ntmps321;go_wp2;refine bodyPost_ret (v:=.agg #[iv v,iv s,iv f,iv f,.bool t]) ?_ rfl ⟨rfl,_,_,rfl⟩;rw [aN rfl];go_simp
theorem fH (v x f:Int) (t:Bool) (w:World) (h0:0<=v) (h1:v<256) :
  Calls prog 311 #[.agg #[iv v,iv 8,iv x,iv f,.bool t]] w fun e w'=>e=.returned (iv (Pl.hi 1 v))∧∃o,w'=w.alloc o:=by
 have E:Hid (v/128=Pl.hi 1 v):=aab (by simp [Pl.hi,Pl.top];omega);go_enter func311,ntmps311;go_wp2;go_ret;exact ⟨rI E.o,_,rfl⟩
theorem pK (v x f i:Int) (t:Bool) (w:World) (h0:0<=v) (h1:v<256) (i0:0<=i) (i1:i<=1) :
  Calls prog 320 #[.agg #[iv v,iv 8,iv x,iv f,.bool t],iv i] w fun e w'=>e=.returned (.agg #[iv (v*2%256+i),iv 8,iv x,iv (Pl.hi 1 v),.bool t])∧∃o1 o2 o3,w'=(((w.alloc o1).alloc o2).alloc o3).drew:=by
 have hO:=Du (a:=v*2) (q:=i) (by omega) (by omega) (by omega) i0 i1;have hA:=gW (v*2+i);have hE:(v*2+i)%256=v*2%256+i:=by omega
 go_enter func320,ntmps320;go_wp2_with fail;refine (fH v x f t _ h0 h1).mono ?_;rintro e w' ⟨rfl,o,rfl⟩;go_wp2_with fail;go_region;go_wp2_with fail;refine bodyPost_ret (v:=.agg #[iv (v*2%256+i),iv 8,iv x,iv (Pl.hi 1 v),.bool t]) ?_ rfl ⟨rfl,_,_,_,rfl⟩;rw [aN rfl];go_simp
theorem kL (v x f i:Int) (t:Bool) (w:World) (h0:0<=v) (h1:v<256) (i0:0<=i) (i1:i<=1) :
  Calls prog 322 #[.agg #[iv v,iv 8,iv x,iv f,.bool t],iv i] w fun e w'=>e=.returned (.agg #[iv (v/2+i*128),iv 8,iv x,iv (v%2),.bool t])∧∃o1 o2 o3,w'=(((w.alloc o1).alloc o2).alloc o3).drew:=by
 have hO:=oK (a:=v/2) (q:=i) (by omega) (by omega) i0 i1;go_enter func322,ntmps322;go_wp2_with fail;refine (lowest v 8 x f t _).mono ?_;rintro e w' ⟨rfl,o,rfl⟩;go_wp2_with fail;go_region;go_wp2_with fail;refine bodyPost_ret (v:=.agg #[iv (v/2+i*128),iv 8,iv x,iv (v%2),.bool t]) ?_ rfl ⟨rfl,_,_,_,rfl⟩;rw [aN rfl];go_simp
theorem fG (v x f:Int) (t:Bool) (w:World) (h0:0<=v) (h1:v<65536) :
  Calls prog 311 #[.agg #[iv v,iv 16,iv x,iv f,.bool t]] w fun e w'=>e=.returned (iv (Pl.hi 2 v))∧∃o,w'=w.alloc o:=by
 have E:Hid (v/32768=Pl.hi 2 v):=aab (by simp [Pl.hi,Pl.top];omega);go_enter func311,ntmps311;go_wp2;go_ret;exact ⟨rI E.o,_,rfl⟩
theorem pJ (v x f i:Int) (t:Bool) (w:World) (h0:0<=v) (h1:v<65536) (i0:0<=i) (i1:i<=1) :
  Calls prog 320 #[.agg #[iv v,iv 16,iv x,iv f,.bool t],iv i] w fun e w'=>e=.returned (.agg #[iv (v*2%65536+i),iv 16,iv x,iv (Pl.hi 2 v),.bool t])∧∃o1 o2 o3,w'=(((w.alloc o1).alloc o2).alloc o3).drew:=by
 have hO:=Du (a:=v*2) (q:=i) (by omega) (by omega) (by omega) i0 i1;have hA:=fJ (v*2+i);have hE:(v*2+i)%65536=v*2%65536+i:=by omega
 go_enter func320,ntmps320;go_wp2_with fail;refine (fG v x f t _ h0 h1).mono ?_;rintro e w' ⟨rfl,o,rfl⟩;go_wp2_with fail;go_region;go_wp2_with fail;refine bodyPost_ret (v:=.agg #[iv (v*2%65536+i),iv 16,iv x,iv (Pl.hi 2 v),.bool t]) ?_ rfl ⟨rfl,_,_,_,rfl⟩;rw [aN rfl];go_simp
theorem kK (v x f i:Int) (t:Bool) (w:World) (h0:0<=v) (h1:v<65536) (i0:0<=i) (i1:i<=1) :
  Calls prog 322 #[.agg #[iv v,iv 16,iv x,iv f,.bool t],iv i] w fun e w'=>e=.returned (.agg #[iv (v/2+i*32768),iv 16,iv x,iv (v%2),.bool t])∧∃o1 o2 o3,w'=(((w.alloc o1).alloc o2).alloc o3).drew:=by
 have hO:=oJ (a:=v/2) (q:=i) (by omega) (by omega) i0 i1;go_enter func322,ntmps322;go_wp2_with fail;refine (lowest v 16 x f t _).mono ?_;rintro e w' ⟨rfl,o,rfl⟩;go_wp2_with fail;go_region;go_wp2_with fail;refine bodyPost_ret (v:=.agg #[iv (v/2+i*32768),iv 16,iv x,iv (v%2),.bool t]) ?_ rfl ⟨rfl,_,_,_,rfl⟩;rw [aN rfl];go_simp
def Pl.thr (k:Int):Bool:=(k==6)||(k==7)
theorem Rx (k:Int) (w:World):Calls prog 302 #[iv k] w fun e w'=>e=.returned (.bool (thr k))∧w'=w:=by
 by_cases h:k=6
 all_goals
  go_enter func302,ntmps302;go_wp2;go_ret;exact ⟨rB (by simp [thr,h]),rfl⟩
set_option linter.unusedSimpArgs false
theorem zS (b:Bool) (f:Int) (w:World) :
  Calls prog 242 #[.bool b,iv f] w fun e w'=>e=.returned (iv (Pl.fl b f))∧w'=w:=by
 cases b
 all_goals
  go_enter func242,ntmps242;go_wp2;go_ret;exact ⟨rfl,rfl⟩
theorem xy (s:Int) (w:World) (s0:0<=s) (s1:s<=2) :
  Calls prog 278 #[iv s] w fun e w'=>e=.returned (iv (8*s))∧w'=w:=by
 go_enter func278,ntmps278;go_wp2;go_ret;exact ⟨rI (by omega),rfl⟩
theorem xY (k:Int) (w:World) :
  Calls prog 301 #[iv k] w fun e w'=>e=.returned (.bool (Pl.kin k))∧w'=w:=by
 by_cases h0:0<=k
 all_goals
  by_cases h1:k<=7
  all_goals
   go_enter func301,ntmps301;go_wp2;go_ret;exact ⟨rB (by simp [Pl.kin];omega),rfl⟩
theorem vN (f:Int) (w:World) :
  Calls prog 191 #[iv f] w fun e w'=>e=.returned (.bool (Pl.flags f))∧w'=w:=by
 by_cases h0:0<=f
 all_goals
  by_cases h1:f<=31
  all_goals
   go_enter func191,ntmps191;go_wp2;go_ret;exact ⟨rB (by simp [Pl.flags];omega),rfl⟩
theorem Pl.five {x f h:Int} {t z:Bool} (hx:x=0∨x=1) (hf:f=0∨f=1) (hh:h=0∨h=1) :
  bits .or .i64 (bits .or .i64 (bits .or .i64 (bits .or .i64 (Pl.fl (f==1) 1) (Pl.fl t 2)) (Pl.fl z 4)) (Pl.fl (h==1) 8)) (Pl.fl (x==1) 16)=f+Pl.fl t 2+(Pl.fl z 4+Pl.fl (h==1) 8)+16*x:=by
 rcases hx with rfl|rfl<;>rcases hf with rfl|rfl<;>rcases hh with rfl|rfl<;>cases t<;>cases z<;>decide
theorem Pl.J7 (s v:Int):(Pl.hi s v==1)=decide (Pl.top s/2<=v):=by
 unfold Pl.hi;split
 ·rename_i h;simp [h]
 ·rename_i h;simp [h]
theorem Us (v x f:Int) (t:Bool) (w:World) (h0:0<=v) (h1:v<256) (x0:0<=x) (x1:x<=1) (f0:0<=f) (f1:f<=1) :
  Calls prog 282 #[.agg #[iv v,iv 8,iv x,iv f,.bool t]] w fun e w'=>e=.returned (iv (f+Pl.fl t 2+zn 1 v+16*x))∧∃o1 o2,w'=(w.alloc o1).alloc o2:=by
 go_enter func282,ntmps282;go_wp2_with (first|(go_at_call 242;refine st (zS _ _ _) ?_)|(go_at_call 311;refine (fH _ _ _ _ _ h0 h1).mono ?_;rintro e w' ⟨rfl,o,rfl⟩));go_ret;obtain ⟨b0,b1⟩:=dF 1 v;refine ⟨rI ?_,_,_,rfl⟩;show bits .or .i64 _ _=_;rw [Pl.five (by omega) (by omega) (by omega),J7];rfl
theorem Ur (v x f:Int) (t:Bool) (w:World) (h0:0<=v) (h1:v<65536) (x0:0<=x) (x1:x<=1) (f0:0<=f) (f1:f<=1) :
  Calls prog 282 #[.agg #[iv v,iv 16,iv x,iv f,.bool t]] w fun e w'=>e=.returned (iv (f+Pl.fl t 2+zn 2 v+16*x))∧∃o1 o2,w'=(w.alloc o1).alloc o2:=by
 go_enter func282,ntmps282;go_wp2_with (first|(go_at_call 242;refine st (zS _ _ _) ?_)|(go_at_call 311;refine (fG _ _ _ _ _ h0 h1).mono ?_;rintro e w' ⟨rfl,o,rfl⟩));go_ret;obtain ⟨b0,b1⟩:=dF 2 v;refine ⟨rI ?_,_,_,rfl⟩;show bits .or .i64 _ _=_;rw [Pl.five (by omega) (by omega) (by omega),J7];rfl
theorem Uo (s v x f W:Int) (t:Bool) (w:World) (h:Pl.Fit s (v,x)) (hW:W=8*s) (f0:0<=f) (f1:f<=1) :
  Calls prog 282 #[.agg #[iv v,iv W,iv x,iv f,.bool t]] w fun e w'=>e=.returned (iv (f+Pl.fl t 2+zn s v+16*x))∧∃o1 o2,w'=(w.alloc o1).alloc o2:=by
 obtain ⟨hs,v0,v1,x0,x1⟩:=h;simp only at v0 v1 x0 x1;subst hW;rcases nz hs with ⟨rfl,e⟩|⟨rfl,e⟩<;>rw [e] at v1
 ·exact Us v x f t w v0 v1 x0 x1 f0 f1
 ·exact Ur v x f t w v0 v1 x0 x1 f0 f1
theorem Fb (k s f v:Int) (w:World) (lo : -9223372036854775808<=v) (hi:v<=9223372036854775807) (h:oV k s f v=false) :
  Calls prog 280 #[iv k,iv s,iv f,iv v] w fun e w'=>e=.returned (.tuple #[.agg ftZ,.bool false])∧Below w.heap.size w w':=by
 have H:(okv s v=false)∨(okv s v=true∧Pl.flags f=false)∨(okv s v=true∧Pl.flags f=true∧Pl.kin k=false):=by
  unfold oV at h;unfold Pl.kin;revert h;cases okv s v<;>cases Pl.flags f<;>simp
 clear h;rcases H with h1|⟨h1,h2⟩|⟨h1,h2,h3⟩
 all_goals
  go_enter func280,ntmps280;go_wp2_with (first|(go_at_call 120;refine st (bU _ _ _ lo hi) ?_)|(go_at_call 191;refine st (vN _ _) ?_)|(go_at_call 301;refine st (xY _ _) ?_));refine bodyPost_ret (v:=.tuple #[.agg ftZ,.bool false]) ?_ rfl ⟨rfl,?_⟩
  ·rw [results_cell_tmp rfl];go_simp
  ·(repeat' (first|with_reducible exact Below.refl _ _|with_reducible refine Below.drew ?_|with_reducible refine Below.alloc ?_ ?_ _|(simp;done)|(simp;omega)))
def Pl.zW (k f:Int):Int:=if 6<=k then f/16 else 0
theorem rowOf (k s f v:Int) (w:World) (h:oV k s f v=true) :
  Calls prog 280 #[iv k,iv s,iv f,iv v] w fun e w'=>e=.returned (.tuple #[.agg #[iv v,iv (8*s),iv (f/16),iv (zW k f),.bool false],.bool true])∧Below w.heap.size w w':=by
 obtain ⟨k0,k1,h1,f0,f1,hs,v0,v1,_,_⟩:=oU h;have h2:Pl.flags f=true:=by simp [Pl.flags,f0,f1]
 have h3:Pl.kin k=true:=by simp [Pl.kin,k0,k1]
 have vb:v<65536:=by
  simp only at v1
  rcases nz hs with ⟨_,e⟩|⟨_,e⟩<;>rw [e] at v1<;>omega
 simp only at v0 v1
 clear h v1;have s0:0<=s:=by omega
 have s1:s<=2:=by omega
 cases hx:thr k
 ·have E:Hid (0=zW k f):=aab (by
   have hx2:=hx;simp [thr] at hx2
   simp [zW];omega)
  have HX:=aab hx;clear hx;go_enter func280,ntmps280;go_wp2_with (first|(go_at_call 120;refine st (bU _ _ _ (by omega) (by omega)) ?_)|(go_at_call 191;refine st (vN _ _) ?_)|(go_at_call 301;refine st (xY _ _) ?_)|(go_at_call 278;refine st (xy _ _ s0 s1) ?_)|(go_at_call 302;refine st (Rx _ _) ?_;rw [HX.o]));refine bodyPost_ret (v:=.tuple #[.agg #[iv v,iv (8*s),iv (f/16),iv 0,.bool false],.bool true]) ?_ rfl ⟨by rw [E.o],?_⟩
  ·rw [results_cell_tmp rfl];go_simp
  ·(repeat' (first|with_reducible exact Below.refl _ _|with_reducible refine Below.drew ?_|with_reducible refine Below.alloc ?_ ?_ _|(simp;done)|(simp;omega)))
 ·have E:Hid (f/16=zW k f):=aab (by
   have hx2:=hx;simp [thr] at hx2
   simp [zW];omega)
  have HX:=aab hx;clear hx;go_enter func280,ntmps280;go_wp2_with (first|(go_at_call 120;refine st (bU _ _ _ (by omega) (by omega)) ?_)|(go_at_call 191;refine st (vN _ _) ?_)|(go_at_call 301;refine st (xY _ _) ?_)|(go_at_call 278;refine st (xy _ _ s0 s1) ?_)|(go_at_call 302;refine st (Rx _ _) ?_;rw [HX.o]));refine bodyPost_ret (v:=.tuple #[.agg #[iv v,iv (8*s),iv (f/16),iv (f/16),.bool false],.bool true]) ?_ rfl ⟨by rw [E.o],?_⟩
  ·rw [results_cell_tmp rfl];go_simp
  ·(repeat' (first|with_reducible exact Below.refl _ _|with_reducible refine Below.drew ?_|with_reducible refine Below.alloc ?_ ?_ _|(simp;done)|(simp;omega)))
def AL (m k e:Int):Value:=if m=0 then .iface 228 (.agg #[iv k]) else if m=1 then .iface 229 (.agg #[iv k]) else if m=2 then .iface 230 (.agg #[iv k]) else if m=3 then .iface 231 (.agg #[iv k]) else if m=4 then .iface 232 (.agg #[iv k]) else if m=5 then .iface 234 (.agg #[iv k,iv e]) else if m=6 then .iface 236 (.agg #[iv e]) else .iface 237 (.agg #[iv e])
theorem Vs (v:Value) (w:World):(Instr.typeAssert (.iface 228 v) 196 228 true).run prog w=.ok (.tuple #[v,.bool true]) w:=by kernel_rfl
theorem Yf (v:Value) (w:World):(Instr.typeAssert (.iface 229 v) 196 228 true).run prog w=.ok (.tuple #[.agg #[iv 0],.bool false]) w:=by kernel_rfl
theorem Ye (v:Value) (w:World):(Instr.typeAssert (.iface 229 v) 196 229 true).run prog w=.ok (.tuple #[v,.bool true]) w:=by kernel_rfl
theorem Vr (v:Value) (w:World):(Instr.typeAssert (.iface 230 v) 196 228 true).run prog w=.ok (.tuple #[.agg #[iv 0],.bool false]) w:=by kernel_rfl
theorem Yd (v:Value) (w:World):(Instr.typeAssert (.iface 230 v) 196 229 true).run prog w=.ok (.tuple #[.agg #[iv 0],.bool false]) w:=by kernel_rfl
theorem Yc (v:Value) (w:World):(Instr.typeAssert (.iface 230 v) 196 237 true).run prog w=.ok (.tuple #[.agg #[iv 0],.bool false]) w:=by kernel_rfl
theorem Vq (v:Value) (w:World):(Instr.typeAssert (.iface 231 v) 196 228 true).run prog w=.ok (.tuple #[.agg #[iv 0],.bool false]) w:=by kernel_rfl
theorem Yb (v:Value) (w:World):(Instr.typeAssert (.iface 231 v) 196 229 true).run prog w=.ok (.tuple #[.agg #[iv 0],.bool false]) w:=by kernel_rfl
theorem Ya (v:Value) (w:World):(Instr.typeAssert (.iface 231 v) 196 237 true).run prog w=.ok (.tuple #[.agg #[iv 0],.bool false]) w:=by kernel_rfl
theorem Vp (v:Value) (w:World):(Instr.typeAssert (.iface 232 v) 196 228 true).run prog w=.ok (.tuple #[.agg #[iv 0],.bool false]) w:=by kernel_rfl
theorem X9 (v:Value) (w:World):(Instr.typeAssert (.iface 232 v) 196 229 true).run prog w=.ok (.tuple #[.agg #[iv 0],.bool false]) w:=by kernel_rfl
theorem X8 (v:Value) (w:World):(Instr.typeAssert (.iface 232 v) 196 237 true).run prog w=.ok (.tuple #[.agg #[iv 0],.bool false]) w:=by kernel_rfl
theorem Vo (v:Value) (w:World):(Instr.typeAssert (.iface 234 v) 196 228 true).run prog w=.ok (.tuple #[.agg #[iv 0],.bool false]) w:=by kernel_rfl
theorem X7 (v:Value) (w:World):(Instr.typeAssert (.iface 234 v) 196 229 true).run prog w=.ok (.tuple #[.agg #[iv 0],.bool false]) w:=by kernel_rfl
theorem XZ (v:Value) (w:World):(Instr.typeAssert (.iface 234 v) 196 237 true).run prog w=.ok (.tuple #[.agg #[iv 0],.bool false]) w:=by kernel_rfl
theorem Vm (v:Value) (w:World):(Instr.typeAssert (.iface 236 v) 196 228 true).run prog w=.ok (.tuple #[.agg #[iv 0],.bool false]) w:=by kernel_rfl
theorem XY (v:Value) (w:World):(Instr.typeAssert (.iface 236 v) 196 229 true).run prog w=.ok (.tuple #[.agg #[iv 0],.bool false]) w:=by kernel_rfl
theorem XX (v:Value) (w:World):(Instr.typeAssert (.iface 236 v) 196 237 true).run prog w=.ok (.tuple #[.agg #[iv 0],.bool false]) w:=by kernel_rfl
theorem XW (v:Value) (w:World):(Instr.typeAssert (.iface 237 v) 196 228 true).run prog w=.ok (.tuple #[.agg #[iv 0],.bool false]) w:=by kernel_rfl
theorem XV (v:Value) (w:World):(Instr.typeAssert (.iface 237 v) 196 229 true).run prog w=.ok (.tuple #[.agg #[iv 0],.bool false]) w:=by kernel_rfl
theorem XU (v:Value) (w:World):(Instr.typeAssert (.iface 237 v) 196 237 true).run prog w=.ok (.tuple #[v,.bool true]) w:=by kernel_rfl
theorem Jg (z:Int) (w:World) (hz:z=1∨z=2):Calls prog 256 #[iv z] w fun e w'=>e=.returned (iv (Pl.top z-1))∧w'=w:=by
 rcases hz with rfl|rfl
 all_goals
  go_enter func256,ntmps256;go_wp2_with (go_at_call 278;refine st (xy _ _ (by decide) (by decide)) ?_);go_ret;exact ⟨rfl,rfl⟩
theorem QL {z x:Int} (hz:z=1∨z=2):bits .and .i64 x (Pl.top z-1)=x%Pl.top z:=by
 rcases hz with rfl|rfl
 ·exact gW x
 ·exact fJ x
theorem Xt (z k:Int) (hC:CAt w lo b g c h) (hz:z=1∨z=2) (k0:0<=k) (k3:k<=3) :
  Calls prog 251 #[.pointer (some (aac b 0)),iv z,iv k] w fun e w'=>e=.returned (iv (c.low z k))∧∃n,w'=w.drewN n:=by
 obtain ⟨n,rfl⟩:∃n:Nat,k=(n:Int):=⟨k.toNat,by omega⟩
 have hn:n<4:=by omega
 have q0:=hC.cX hn;have ha:=QL (x:=el c.r.xs n) hz;clear hC;go_enter func251,ntmps251;go_wp2_with fail;go_quiet (first|(go_at_call 256;exact Calls.quiet_of_same (Jg _ _ hz))|fail);go_wp2_with fail;go_ret;exact ⟨rfl,_,rfl⟩
theorem sN (z v:Int) (hC:CAt w lo b g c h) (v0:0<=v) (v1:v<=65535) :
  Calls prog 253 #[.pointer (some (aac b 0)),iv z,iv v] w fun e w'=>e=.returned (.tuple #[])∧CAt w' lo b g (c.aI (dA z c.r.f v)) h∧Kept b (b+1) w w':=by
 have HC:=aab hC;have q:=hC.cF;have qf:=hC.fz;clear hC;go_enter func253,ntmps253;go_wp2_with (go_at_call 277;refine st (iW _ _ _ _ (by omega) (by omega)) ?_);go_end0;exact ⟨rfl,HC.o.aI _,ak _ _ _ _⟩
theorem RU (m k e:Int) (w:World) (m0:0<=m) (m7:m<=7):Calls prog 168 #[.agg #[iv m,iv k,iv e]] w fun r w'=>r=.returned (AL m k e)∧Kept 0 0 w w':=by
 have:m=0∨m=1∨m=2∨m=3∨m=4∨m=5∨m=6∨m=7:=by omega
 rcases this with rfl|rfl|rfl|rfl|rfl|rfl|rfl|rfl
 ·exact AZ k e w
 ·exact AY k e w
 ·exact AX k e w
 ·exact AV k e w
 ·exact AU k e w
 ·exact AQ k e w
 ·exact AP k e w
 ·exact AO k e w
theorem Qs (z k e:Int) (hC:CAt w lo b g c h) (hg:Pl.Good c.r) (hz:z=1∨z=2) (k0:0<=k) (k3:k<=3) (x0:0<=e) (x1:e<=65535) :
  Calls prog 257 #[.pointer (some (aac b 0)),iv z,.iface 230 (.agg #[iv k])] w fun e' w'=>e'=.returned (.tuple #[iv (bg c.r z 2 k e),.bool true])∧CAt w' lo b g (c.plc z 2 k e) h∧Kept b (b+1) w w':=by
 have t2:=YF;have t3:=YE;have t4:=YD;have t5:=VJ;have t6:=VI;obtain ⟨n,rfl⟩:∃n:Nat,k=(n:Int):=⟨k.toNat,by omega⟩
 have hn:n<4:=by omega
 obtain ⟨y0,y1⟩:=hg.aw n hn;have h4:=aab hg.a4;have l9:=hC.lt;have HC:=aab hC;have EV:Hid (el c.r.ys n=bg c.r z 2 (n:Int) e):=aab (by simp [bg]);have ER:Hid (c.plc z 2 (n:Int) e=c):=aab (by unfold Mc.plc bu;rw [if_neg (by decide),if_neg (by decide)];rfl);have HN:=aab (Blk.new w #[iv (n:Int)] 230);have C1:=aab (hC.alloc (.cells #[iv (n:Int)] 230));have HK:=aab (kept_alloc w (.cells #[iv (n:Int)] 230));clear hg hC;obtain ⟨X,hX⟩:∃X:World,w.alloc (.cells #[iv (n:Int)] 230)=X:=⟨_,rfl⟩
 rw [hX] at HN C1 HK;have i0:(0:Int)<=(n:Int):=by omega
 have i1:(n:Int)<4:=by omega
 have n0:=HN.o.cell (i:=0) rfl;go_enter func257,ntmps257;go_wp2_with fail;clear hX t2 t3 t4 t5 t6;have q0:=C1.o.cY hn;go_region;go_wp2_with fail;go_ret2;exact ⟨rIB EV.o rfl,by rw [ER.o];exact C1.o.drew,ah HK.o.any⟩
theorem Qp (z k e:Int) (hC:CAt w lo b g c h) (hg:Pl.Good c.r) (hz:z=1∨z=2) (k0:0<=k) (k3:k<=3) (x0:0<=e) (x1:e<=65535) :
  Calls prog 257 #[.pointer (some (aac b 0)),iv z,.iface 234 (.agg #[iv k,iv e])] w fun e' w'=>e'=.returned (.tuple #[iv (bg c.r z 5 k e),.bool true])∧CAt w' lo b g (c.plc z 5 k e) h∧Kept b (b+1) w w':=by
 have t2:=Yt;have t3:=Yr;have t4:=Yq;have t5:=VD;have t6:=VC;obtain ⟨n,rfl⟩:∃n:Nat,k=(n:Int):=⟨k.toNat,by omega⟩
 have hn:n<4:=by omega
 obtain ⟨y0,y1⟩:=hg.aw n hn;have h4:=aab hg.a4;have l9:=hC.lt;have HC:=aab hC;have EV:Hid ((el c.r.ys n+e)%65536=bg c.r z 5 (n:Int) e):=aab (by simp [bg]);have ER:Hid (c.plc z 5 (n:Int) e=c):=aab (by unfold Mc.plc bu;rw [if_neg (by decide),if_neg (by decide)];rfl);have HN:=aab (Blk.new w #[iv (n:Int),iv e] 234);have C1:=aab (hC.alloc (.cells #[iv (n:Int),iv e] 234));have HK:=aab (kept_alloc w (.cells #[iv (n:Int),iv e] 234));clear hg hC;obtain ⟨X,hX⟩:∃X:World,w.alloc (.cells #[iv (n:Int),iv e] 234)=X:=⟨_,rfl⟩
 rw [hX] at HN C1 HK;have i0:(0:Int)<=(n:Int):=by omega
 have i1:(n:Int)<4:=by omega
 have n0:=HN.o.cell (i:=0) rfl;go_enter func257,ntmps257;go_wp2_with fail;clear hX t2 t3 t4 t5 t6;have q0:=C1.o.cY hn;have n1:=HN.o.cell (i:=1) rfl;go_quiet (first|(go_at_call 178;exact Calls.quiet_of_same (gX _ _))|fail);go_wp2_with fail;go_ret2;exact ⟨rIB EV.o rfl,by rw [ER.o];exact C1.o.any (au (Kept.refl _ _ _) _),au HK.o.any _⟩
theorem Qo (z k e:Int) (hC:CAt w lo b g c h) (hg:Pl.Good c.r) (hz:z=1∨z=2) (k0:0<=k) (k3:k<=3) (x0:0<=e) (x1:e<=65535) :
  Calls prog 257 #[.pointer (some (aac b 0)),iv z,.iface 236 (.agg #[iv e])] w fun e' w'=>e'=.returned (.tuple #[iv (bg c.r z 6 k e),.bool true])∧CAt w' lo b g (c.plc z 6 k e) h∧Kept b (b+1) w w':=by
 have t2:=Yo;have t3:=Yn;have t4:=Ym;have t5:=VB;have t6:=Vz;obtain ⟨n,rfl⟩:∃n:Nat,k=(n:Int):=⟨k.toNat,by omega⟩
 have hn:n<4:=by omega
 obtain ⟨y0,y1⟩:=hg.aw n hn;have h4:=aab hg.a4;have l9:=hC.lt;have HC:=aab hC;have EV:Hid (e=bg c.r z 6 (n:Int) e):=aab (by simp [bg]);have ER:Hid (c.plc z 6 (n:Int) e=c):=aab (by unfold Mc.plc bu;rw [if_neg (by decide),if_neg (by decide)];rfl);have HN:=aab (Blk.new w #[iv e] 236);have C1:=aab (hC.alloc (.cells #[iv e] 236));have HK:=aab (kept_alloc w (.cells #[iv e] 236));clear hg hC;obtain ⟨X,hX⟩:∃X:World,w.alloc (.cells #[iv e] 236)=X:=⟨_,rfl⟩
 rw [hX] at HN C1 HK;have i0:(0:Int)<=(n:Int):=by omega
 have i1:(n:Int)<4:=by omega
 have n0:=HN.o.cell (i:=0) rfl;go_enter func257,ntmps257;go_wp2_with fail;clear hX t2 t3 t4 t5 t6;go_ret2;exact ⟨rIB EV.o rfl,by rw [ER.o];exact C1.o,HK.o.any⟩
theorem Qr (z k e:Int) (hC:CAt w lo b g c h) (hg:Pl.Good c.r) (hz:z=1∨z=2) (k0:0<=k) (k3:k<=3) (x0:0<=e) (x1:e<=65535) :
  Calls prog 257 #[.pointer (some (aac b 0)),iv z,.iface 231 (.agg #[iv k])] w fun e' w'=>e'=.returned (.tuple #[iv (bg c.r z 3 k e),.bool true])∧CAt w' lo b g (c.plc z 3 k e) h∧Kept b (b+1) w w':=by
 have t2:=YB;have t3:=YA;have t4:=Yz;have t5:=VH;have t6:=VG;obtain ⟨n,rfl⟩:∃n:Nat,k=(n:Int):=⟨k.toNat,by omega⟩
 have hn:n<4:=by omega
 obtain ⟨y0,y1⟩:=hg.aw n hn;have h4:=aab hg.a4;have l9:=hC.lt;have HC:=aab hC;have EV:Hid (el c.r.ys n=bg c.r z 3 (n:Int) e):=aab (by simp [bg]);obtain ⟨nb0,nb1⟩:1<=byN z (n:Int)∧byN z (n:Int)<=2:=by unfold byN;split<;>omega
 have ew:IntKind.i64.wrap (el c.r.ys n+byN z (n:Int))=el c.r.ys n+byN z (n:Int):=by rw [IntKind.wrap_i64];omega
 have ER:Hid (c.plc z 3 (n:Int) e=c.fB n ((el c.r.ys n+byN z (n:Int))%65536)):=aab (by simp [Mc.plc,bu,Mc.fB,Mc.bi]);have HN:=aab (Blk.new w #[iv (n:Int)] 231);have C1:=aab (hC.alloc (.cells #[iv (n:Int)] 231));have HK:=aab (kept_alloc w (.cells #[iv (n:Int)] 231));clear hg hC;obtain ⟨X,hX⟩:∃X:World,w.alloc (.cells #[iv (n:Int)] 231)=X:=⟨_,rfl⟩
 rw [hX] at HN C1 HK;have i0:(0:Int)<=(n:Int):=by omega
 have i1:(n:Int)<4:=by omega
 have n0:=HN.o.cell (i:=0) rfl;go_enter func257,ntmps257;go_wp2_with fail;clear hX t2 t3 t4 t5 t6;have q0:=C1.o.cY hn;go_region;go_wp2_with fail;clear q0 n0;refine wp_region_still_tail 12 (by kernel_rfl) (by kernel_rfl) ?_;simp only [List.take_succ_cons,List.take_zero,List.drop_succ_cons,List.drop_zero];obtain ⟨Y,hY⟩:∃Y:World,Y={X.drew with drawn:=(X.drew).drawn+1}:=⟨_,rfl⟩
 rw [<-hY];have CY:Hid (CAt Y lo b g c h):=aab (by rw [hY];exact C1.o.any (ah (ah (Kept.refl _ _ _))));have NY:Hid (Blk Y w.heap.size #[iv (n:Int)] 231):=aab (by rw [hY];exact HN.o);have KY:Hid (Kept 0 0 w Y):=aab (by rw [hY];exact ah (ah HK.o));clear hY;have q1:=CY.o.cY hn;have qf:=CY.o.fz (4+n);have n1:=NY.o.cell (i:=0) rfl
 iterate 7 still_step
 still_call (yO _ _ _ hz)
 iterate 1 still_step
 still_call (gX _ _)
 iterate 2 still_step
 refine wpStill_nil ?_;go_wp2_with fail;go_ret2;exact ⟨rIB EV.o rfl,by rw [ER.o];exact CY.o.uZ h4.o hn _,af KY.o.any _ _ _ (.inl ⟨by omega,by omega⟩)⟩
theorem Qq (z k e:Int) (hC:CAt w lo b g c h) (hg:Pl.Good c.r) (hz:z=1∨z=2) (k0:0<=k) (k3:k<=3) (x0:0<=e) (x1:e<=65535) :
  Calls prog 257 #[.pointer (some (aac b 0)),iv z,.iface 232 (.agg #[iv k])] w fun e' w'=>e'=.returned (.tuple #[iv (bg c.r z 4 k e),.bool true])∧CAt w' lo b g (c.plc z 4 k e) h∧Kept b (b+1) w w':=by
 have t2:=Yx;have t3:=Yw;have t4:=Yv;have t5:=VF;have t6:=VE;obtain ⟨n,rfl⟩:∃n:Nat,k=(n:Int):=⟨k.toNat,by omega⟩
 have hn:n<4:=by omega
 obtain ⟨y0,y1⟩:=hg.aw n hn;have h4:=aab hg.a4;have l9:=hC.lt;have HC:=aab hC;have EV:Hid ((el c.r.ys n-byN z (n:Int))%65536=bg c.r z 4 (n:Int) e):=aab (by simp [bg]);obtain ⟨nb0,nb1⟩:1<=byN z (n:Int)∧byN z (n:Int)<=2:=by unfold byN;split<;>omega
 have ew:IntKind.i64.wrap (el c.r.ys n-byN z (n:Int))=el c.r.ys n-byN z (n:Int):=by rw [IntKind.wrap_i64];omega
 have ER:Hid (c.plc z 4 (n:Int) e=c.fB n ((el c.r.ys n-byN z (n:Int))%65536)):=aab (by simp [Mc.plc,bu,Mc.fB,Mc.bi]);have HN:=aab (Blk.new w #[iv (n:Int)] 232);have C1:=aab (hC.alloc (.cells #[iv (n:Int)] 232));have HK:=aab (kept_alloc w (.cells #[iv (n:Int)] 232));clear hg hC;obtain ⟨X,hX⟩:∃X:World,w.alloc (.cells #[iv (n:Int)] 232)=X:=⟨_,rfl⟩
 rw [hX] at HN C1 HK;have i0:(0:Int)<=(n:Int):=by omega
 have i1:(n:Int)<4:=by omega
 have n0:=HN.o.cell (i:=0) rfl;go_enter func257,ntmps257;go_wp2_with fail;clear hX t2 t3 t4 t5 t6;clear n0;refine wp_region_still_tail 18 (by kernel_rfl) (by kernel_rfl) ?_;simp only [List.take_succ_cons,List.take_zero,List.drop_succ_cons,List.drop_zero];obtain ⟨Y,hY⟩:∃Y:World,Y={X with drawn:=(X).drawn+1}:=⟨_,rfl⟩
 rw [<-hY];have CY:Hid (CAt Y lo b g c h):=aab (by rw [hY];exact C1.o.any (ah (Kept.refl _ _ _)));have NY:Hid (Blk Y w.heap.size #[iv (n:Int)] 232):=aab (by rw [hY];exact HN.o);have KY:Hid (Kept 0 0 w Y):=aab (by rw [hY];exact ah HK.o);clear hY;have q1:=CY.o.cY hn;have qf:=CY.o.fz (4+n);have n1:=NY.o.cell (i:=0) rfl
 iterate 13 still_step
 still_call (yO _ _ _ hz)
 iterate 1 still_step
 still_call (gX _ _)
 iterate 2 still_step
 refine wpStill_nil ?_;go_wp2_with fail;go_region;go_wp2_with fail;go_ret2;exact ⟨rIB EV.o rfl,by rw [ER.o];exact (CY.o.uZ h4.o hn _).drew,ah (af KY.o.any _ _ _ (.inl ⟨by omega,by omega⟩))⟩
theorem Qv (w:World) (b:Nat) (z:Int) (v:Value) :
  Calls prog 257 #[.pointer (some (aac b 0)),iv z,.iface 228 v] w fun e' w'=>e'=.returned (.tuple #[iv 0,.bool false])∧w'=w:=by
 have t2:=YN;have t3:=YM;have t4:=YL;have t5:=VN;have t6:=VM;go_enter func257,ntmps257;go_wp2_with fail;go_ret2;exact ⟨rfl,rfl⟩
theorem Qu (w:World) (b:Nat) (z:Int) (v:Value) :
  Calls prog 257 #[.pointer (some (aac b 0)),iv z,.iface 229 v] w fun e' w'=>e'=.returned (.tuple #[iv 0,.bool false])∧w'=w:=by
 have t2:=YJ;have t3:=YI;have t4:=YH;have t5:=VL;have t6:=VK;go_enter func257,ntmps257;go_wp2_with fail;go_ret2;exact ⟨rfl,rfl⟩
theorem Qn (w:World) (b:Nat) (z:Int) (v:Value) :
  Calls prog 257 #[.pointer (some (aac b 0)),iv z,.iface 237 v] w fun e' w'=>e'=.returned (.tuple #[iv 0,.bool false])∧w'=w:=by
 have t2:=Yk;have t3:=Yj;have t4:=Yi;have t5:=Vy;have t6:=Vx;go_enter func257,ntmps257;go_wp2_with fail;go_ret2;exact ⟨rfl,rfl⟩
def Pl.Mc.slot (c:Mc) (z m k e:Int):Mc:=bif Mc.gG m then c else c.plc z m k e
theorem Qm (z m k e:Int) (hC:CAt w lo b g c h) (hg:Pl.Good c.r) (hz:z=1∨z=2) (m0:0<=m) (m7:m<=7) (k0:0<=k) (k3:k<=3) (x0:0<=e) (x1:e<=65535) :
  Calls prog 257 #[.pointer (some (aac b 0)),iv z,AL m k e] w fun e' w'=>e'=.returned (.tuple #[iv (c.readA z m k e),.bool (!Mc.gG m)])∧CAt w' lo b g (c.slot z m k e) h∧Kept b (b+1) w w':=by
 have:m=0∨m=1∨m=2∨m=3∨m=4∨m=5∨m=6∨m=7:=by omega
 rcases this with rfl|rfl|rfl|rfl|rfl|rfl|rfl|rfl
 ·refine (Qv w b z (.agg #[iv k])).mono ?_;rintro e9 w9 ⟨rfl,rfl⟩;exact ⟨rfl,hC,Kept.refl _ _ _⟩
 ·refine (Qu w b z (.agg #[iv k])).mono ?_;rintro e9 w9 ⟨rfl,rfl⟩;exact ⟨rfl,hC,Kept.refl _ _ _⟩
 ·exact Qs w lo b g c h z k e hC hg hz k0 k3 x0 x1
 ·exact Qr w lo b g c h z k e hC hg hz k0 k3 x0 x1
 ·exact Qq w lo b g c h z k e hC hg hz k0 k3 x0 x1
 ·exact Qp w lo b g c h z k e hC hg hz k0 k3 x0 x1
 ·exact Qo w lo b g c h z k e hC hg hz k0 k3 x0 x1
 ·refine (Qn w b z (.agg #[iv e])).mono ?_;rintro e9 w9 ⟨rfl,rfl⟩;exact ⟨rfl,hC,Kept.refl _ _ _⟩
theorem ng (z k:Int) (hC:CAt w lo b g c h) (hz:z=1∨z=2) (k0:0<=k) (k3:k<=3) :
  Calls prog 251 #[.pointer (some (aac b 0)),iv z,iv k] w fun e w'=>e=.returned (iv (c.low z k))∧Kept 0 0 w w':=by
 refine (Xt w lo b g c h z k hC hz k0 k3).mono ?_;rintro e w' ⟨rfl,n,rfl⟩;exact ⟨rfl,au (Kept.refl _ _ _) _⟩
theorem Ru {w W W':World} {lo hi l h:Nat} (k:Kept lo hi w W) (m:Kept l h W W') (hg:w.heap.size<=l):Kept lo hi w W':=
 ⟨m.os.trans k.os,m.tape.trans k.tape,m.output.trans k.output,Nat.le_trans k.size m.size,fun i hi hn=>(m.block i (Nat.lt_of_lt_of_le hi k.size) (by omega)).trans (k.block i hi hn)⟩
theorem pF (m k e:Int):∃(T:TypeId) (U:Value),AL m k e=.iface T U:=by
 unfold AL;repeat' split
 all_goals exact ⟨_,_,rfl⟩
theorem wu (x:Pl.In) (hC:CAt w lo b g c h) (G:GM c) (B:InB x) :
  Calls prog 227 #[.pointer (some (aac b 0)),.agg (inX x)] w fun e w'=>e=.returned (.agg #[AL x.m x.k x.e,iv x.z,iv (c.readA x.z x.m x.k x.e)])∧CAt w' lo b g (c.slot x.z x.m x.k x.e) h∧Kept b (b+1) w w':=by
 obtain ⟨l0,l1,l2,l3,l4⟩:=hC.lt;have HB:=aab B;have HG:=aab G.g;have K0:=aab (ag (kept_alloc w (.cells (inX x) 48)) (.cells #[.nilIface,iv 0,iv 0] 239));have C0:=aab ((hC.alloc (.cells (inX x) 48)).alloc (.cells #[.nilIface,iv 0,iv 0] 239));have I0:=aab ((Blk.new w (inX x) 48).alloc (.cells #[.nilIface,iv 0,iv 0] 239));have R0:=Blk.new (w.alloc (.cells (inX x) 48)) #[.nilIface,iv 0,iv 0] 239;simp only [World.size_alloc] at R0;replace R0:=aab R0;obtain ⟨X,hX⟩:∃X:World,(w.alloc (.cells (inX x) 48)).alloc (.cells #[.nilIface,iv 0,iv 0] 239)=X:=⟨_,rfl⟩
 rw [hX] at K0 C0 I0 R0;obtain ⟨T,U,hV⟩:=pF x.m x.k x.e;have HV:=aab hV;obtain ⟨A,hA⟩:∃A,A=c.readA x.z x.m x.k x.e:=⟨_,rfl⟩
 have HA:=aab hA;rw [hV,<-hA];clear hC G B hV hA;have p:=I0.o.all;go_enter func227,ntmps227;go_wp2_with (go_at_call 168;refine (RU x.m x.k x.e _ HB.o.m0 HB.o.m1).mono ?_;rintro e9 W1 ⟨rfl,k1⟩;rw [HV.o];have C1:=aab (C0.o.any k1);have I1:=aab (I0.o.ae k1);have R1:=aab (R0.o.ae k1);have K1:=aab (K0.o.trans k1);clear k1);clear hX p;have p:=I1.o.cell (i:=1) rfl
 go_region_held3 (fun w'=>w'.cell? (aac w.heap.size 1)=some (iv x.z)) (first|with_reducible exact I2.o.cell (i:=1) rfl|with_reducible exact I1.o.cell (i:=1) rfl|exact (show Blk _ _ _ _ from I1.o).cell (i:=1) rfl)
  (first|(go_at_call 257;rw [<-HV.o];refine (Qm _ lo b g c h x.z x.m x.k x.e C1.o.drew HG.o HB.o.z HB.o.m0 HB.o.m1 HB.o.k0 HB.o.k1 HB.o.e0 HB.o.e1).mono ?_;rintro e9 W2 ⟨rfl,hc2,kd⟩;rw [<-HA.o];try rw [HV.o];have k2:=aK kd;have C2:=aab hc2;have I2:=aab (I1.o.kept k2 (by omega));have R2:=aab (R1.o.kept k2 (by omega));have K2:=aab (K1.o.any.trans k2);clear kd k2 hc2))
 clear p;have p2:=I2.o.all;have r2:=R2.o.all;have rf2:=R2.o.fz;go_wp2_with fail;have K3:=((ak W2 (w.heap.size+1) 0 (.iface T U)).one 1 (iv x.z)).one 2 (iv A);refine bodyPost_ret (v:=.agg #[.iface T U,iv x.z,iv A]) ?_ rfl ⟨rfl,C2.o.kept K3 (by omega) (by omega),Ru K2.o K3 (by omega)⟩;rw [aj rfl];go_simp
theorem UI (z a k:Int) (hC:CAt w lo b g c h) (hz:z=1∨z=2) (k0:0<=k) (k3:k<=3) :
  Calls prog 249 #[.pointer (some (aac b 0)),.agg #[.iface 228 (.agg #[iv k]),iv z,iv a]] w fun e w'=>e=.returned (.tuple #[iv (c.low z k),.agg ftZ])∧CAt w' lo b g c h∧Kept 0 0 w w':=by
 have t0:=Vs;obtain ⟨l0,l1,l2,l3,l4⟩:=hC.lt;have K0:=aab (ag (kept_alloc w (.cells #[.iface 228 (.agg #[iv k]),iv z,iv a] 239)) (.cells ftZ 42));have C0:=aab ((hC.alloc (.cells #[.iface 228 (.agg #[iv k]),iv z,iv a] 239)).alloc (.cells ftZ 42));have I0:=aab ((Blk.new w #[.iface 228 (.agg #[iv k]),iv z,iv a] 239).alloc (.cells ftZ 42));have R0:=Blk.new (w.alloc (.cells #[.iface 228 (.agg #[iv k]),iv z,iv a] 239)) ftZ 42;simp only [World.size_alloc] at R0;replace R0:=aab R0;obtain ⟨X,hX⟩:∃X:World,(w.alloc (.cells #[.iface 228 (.agg #[iv k]),iv z,iv a] 239)).alloc (.cells ftZ 42)=X:=⟨_,rfl⟩
 rw [hX] at K0 C0 I0 R0;have p:=I0.o.all;have r:=R0.o.all;have rf:=R0.o.fz;have sX:w.heap.size+1<X.heap.size:=R0.o.lt;have K1:=aab (ag K0.o (.cells #[iv k] 228));have C1:=aab (C0.o.alloc (.cells #[iv k] 228));have R1:=aab (R0.o.alloc (.cells #[iv k] 228));have I1:=aab (I0.o.alloc (.cells #[iv k] 228));have N1:=aab (Blk.new X #[iv k] 228);obtain ⟨W1,hW⟩:∃W:World,X.alloc (.cells #[iv k] 228)=W:=⟨_,rfl⟩
 rw [hW] at K1 C1 R1 I1 N1;have p1:=I1.o.all;have r1:=R1.o.all;have rf1:=R1.o.fz;have n1:=N1.o.all;have nf1:=N1.o.fz;have s1:X.heap.size<W1.heap.size:=N1.o.lt;clear hC;go_enter func249,ntmps249;go_wp2_with (go_at_call 251;refine (ng _ lo b g c h z k C1.o hz k0 k3).mono ?_;rintro e9 W2 ⟨rfl,k1⟩;have C2:=aab (C1.o.any k1);have R2:=aab (R1.o.ae k1);have K2:=aab (K1.o.trans k1);have r2:=R2.o.all;have rf2:=R2.o.fz;clear k1);have K3:=(((((ak W2 (w.heap.size+1) 0 (iv 0)).one 1 (iv 0)).one 2 (iv 0)).one 3 (iv 0)).one 4 (.bool false))
 refine bodyPost_ret (v:=.tuple #[iv (c.low z k),.agg ftZ]) ?_ rfl ⟨rfl,C2.o.kept K3 (by omega) (by omega),aH K2.o K3 (by omega)⟩;rw [gJ rfl];go_simp
theorem UH (z a k:Int) (hC:CAt w lo b g c h) (k0:0<=k) (k3:k<=3) :
  Calls prog 249 #[.pointer (some (aac b 0)),.agg #[.iface 229 (.agg #[iv k]),iv z,iv a]] w fun e w'=>e=.returned (.tuple #[iv (el c.r.ys k.toNat),.agg ftZ])∧CAt w' lo b g c h∧Kept 0 0 w w':=by
 obtain ⟨n,rfl⟩:∃n:Nat,k=(n:Int):=⟨k.toNat,by omega⟩
 have hn:n<4:=by omega
 have t0:=Yf;have t1:=Ye;obtain ⟨l0,l1,l2,l3,l4⟩:=hC.lt;have K0:=aab (ag (kept_alloc w (.cells #[.iface 229 (.agg #[iv (n:Int)]),iv z,iv a] 239)) (.cells ftZ 42));have C0:=aab ((hC.alloc (.cells #[.iface 229 (.agg #[iv (n:Int)]),iv z,iv a] 239)).alloc (.cells ftZ 42));have I0:=aab ((Blk.new w #[.iface 229 (.agg #[iv (n:Int)]),iv z,iv a] 239).alloc (.cells ftZ 42));have R0:=Blk.new (w.alloc (.cells #[.iface 229 (.agg #[iv (n:Int)]),iv z,iv a] 239)) ftZ 42;simp only [World.size_alloc] at R0;replace R0:=aab R0;obtain ⟨X,hX⟩:∃X:World,(w.alloc (.cells #[.iface 229 (.agg #[iv (n:Int)]),iv z,iv a] 239)).alloc (.cells ftZ 42)=X:=⟨_,rfl⟩
 rw [hX] at K0 C0 I0 R0;have p:=I0.o.all;have r:=R0.o.all;have rf:=R0.o.fz;have sX:w.heap.size+1<X.heap.size:=R0.o.lt;have K1:=aab (ag K0.o (.cells #[iv (n:Int)] 229));have C1:=aab (C0.o.alloc (.cells #[iv (n:Int)] 229));have R1:=aab (R0.o.alloc (.cells #[iv (n:Int)] 229));have I1:=aab (I0.o.alloc (.cells #[iv (n:Int)] 229));have N1:=aab (Blk.new X #[iv (n:Int)] 229);obtain ⟨W1,hW⟩:∃W:World,X.alloc (.cells #[iv (n:Int)] 229)=W:=⟨_,rfl⟩
 rw [hW] at K1 C1 R1 I1 N1;have p1:=I1.o.all;have r1:=R1.o.all;have rf1:=R1.o.fz;have n1:=N1.o.all;have nf1:=N1.o.fz;have s1:X.heap.size<W1.heap.size:=N1.o.lt;clear hC;have i0:(0:Int)<=(n:Int):=by omega
 have i1:(n:Int)<4:=by omega
 go_enter func249,ntmps249;go_wp2_with fail;clear hW hX p r rf;have q:=C1.o.cY hn;go_region;go_wp2_with fail;have K2:=ah (((((ak W1 (w.heap.size+1) 0 (iv 0)).one 1 (iv 0)).one 2 (iv 0)).one 3 (iv 0)).one 4 (.bool false));refine bodyPost_ret (v:=.tuple #[iv (el c.r.ys n),.agg ftZ]) ?_ rfl ⟨rfl,C1.o.kept K2 (by omega) (by omega),aH K1.o K2 (by omega)⟩;rw [gJ rfl];go_simp
theorem UG (z a e:Int) (hC:CAt w lo b g c h) :
  Calls prog 249 #[.pointer (some (aac b 0)),.agg #[.iface 237 (.agg #[iv e]),iv z,iv a]] w fun e' w'=>e'=.returned (.tuple #[iv e,.agg ftZ])∧CAt w' lo b g c h∧Kept 0 0 w w':=by
 have t0:=XW;have t1:=XV;have t7:=XU;obtain ⟨l0,l1,l2,l3,l4⟩:=hC.lt;have K0:=aab (ag (kept_alloc w (.cells #[.iface 237 (.agg #[iv e]),iv z,iv a] 239)) (.cells ftZ 42));have C0:=aab ((hC.alloc (.cells #[.iface 237 (.agg #[iv e]),iv z,iv a] 239)).alloc (.cells ftZ 42));have I0:=aab ((Blk.new w #[.iface 237 (.agg #[iv e]),iv z,iv a] 239).alloc (.cells ftZ 42));have R0:=Blk.new (w.alloc (.cells #[.iface 237 (.agg #[iv e]),iv z,iv a] 239)) ftZ 42;simp only [World.size_alloc] at R0;replace R0:=aab R0;obtain ⟨X,hX⟩:∃X:World,(w.alloc (.cells #[.iface 237 (.agg #[iv e]),iv z,iv a] 239)).alloc (.cells ftZ 42)=X:=⟨_,rfl⟩
 rw [hX] at K0 C0 I0 R0;have p:=I0.o.all;have r:=R0.o.all;have rf:=R0.o.fz;have sX:w.heap.size+1<X.heap.size:=R0.o.lt;have K1:=aab (ag K0.o (.cells #[iv e] 237));have C1:=aab (C0.o.alloc (.cells #[iv e] 237));have R1:=aab (R0.o.alloc (.cells #[iv e] 237));have I1:=aab (I0.o.alloc (.cells #[iv e] 237));have N1:=aab (Blk.new X #[iv e] 237);obtain ⟨W1,hW⟩:∃W:World,X.alloc (.cells #[iv e] 237)=W:=⟨_,rfl⟩
 rw [hW] at K1 C1 R1 I1 N1;have p1:=I1.o.all;have r1:=R1.o.all;have rf1:=R1.o.fz;have n1:=N1.o.all;have nf1:=N1.o.fz;have s1:X.heap.size<W1.heap.size:=N1.o.lt;clear hC;go_enter func249,ntmps249;go_wp2_with fail;have K2:=(((((ak W1 (w.heap.size+1) 0 (iv 0)).one 1 (iv 0)).one 2 (iv 0)).one 3 (iv 0)).one 4 (.bool false))
 refine bodyPost_ret (v:=.tuple #[iv e,.agg ftZ]) ?_ rfl ⟨rfl,C1.o.kept K2 (by omega) (by omega),aH K1.o K2 (by omega)⟩;rw [gJ rfl];go_simp
theorem ww (z a:Int) (T:TypeId) (U:Value) (t0:∀w,(Instr.typeAssert (.iface T U) 196 228 true).run prog w=.ok (.tuple #[.agg #[iv 0],.bool false]) w) (t1:∀w,(Instr.typeAssert (.iface T U) 196 229 true).run prog w=.ok (.tuple #[.agg #[iv 0],.bool false]) w) (t7:∀w,(Instr.typeAssert (.iface T U) 196 237 true).run prog w=.ok (.tuple #[.agg #[iv 0],.bool false]) w) (hC:CAt w lo b g c h) (G:GM c) (hf:c.f=aG) (hz:z=1∨z=2) (a0:0<=a) (a1:a<=65535) :
  Calls prog 249 #[.pointer (some (aac b 0)),.agg #[.iface T U,iv z,iv a]] w fun e w'=>∃g',e=.returned (.tuple #[iv (c.gz 1 z a 0),.agg (ftC (c.acc 1 z a 0).f)])∧CAt w' lo b g' (c.acc 1 z a 0) h∧Since w b (b+1) g w' g':=by
 have HA:=aab (yI hz a0 a1);have HG:=aab G;obtain ⟨F,hF⟩:∃F,F=Mc.dm aG 1 z a:=⟨_,rfl⟩
 have HF:=aab hF;rw [show (c.acc 1 z a 0).f=F by show Mc.dm c.f 1 z a=F;rw [hf,hF]];obtain ⟨V,hV⟩:∃V,V=c.gz 1 z a 0:=⟨_,rfl⟩
 have HV:Hid (V=if (1:Int)=2 then 0 else Pl.lv c.bx 1 z a 0):=aab hV;rw [<-hV];obtain ⟨l0,l1,l2,l3,l4⟩:=hC.lt;have K0:=aab (ag (kept_alloc w (.cells #[.iface T U,iv z,iv a] 239)) (.cells ftZ 42));have C0:=aab ((hC.alloc (.cells #[.iface T U,iv z,iv a] 239)).alloc (.cells ftZ 42));have I0:=aab ((Blk.new w #[.iface T U,iv z,iv a] 239).alloc (.cells ftZ 42));have R0:=Blk.new (w.alloc (.cells #[.iface T U,iv z,iv a] 239)) ftZ 42;simp only [World.size_alloc] at R0;replace R0:=aab R0;obtain ⟨X,hX⟩:∃X:World,(w.alloc (.cells #[.iface T U,iv z,iv a] 239)).alloc (.cells ftZ 42)=X:=⟨_,rfl⟩
 rw [hX] at K0 C0 I0 R0;have p:=I0.o.all;have r:=R0.o.all;have rf:=R0.o.fz;have sX:w.heap.size+1<X.heap.size:=R0.o.lt;clear hC G hF hV;go_enter func249,ntmps249;go_wp2_with (go_at_call 187;refine (jS _ lo b g c h 1 z a 0 C0.o HG.o HA.o V HV F HF).mono ?_;rintro e9 W1 ⟨g',rfl,hc1,hs1⟩;unfold ftC;have S1:=aab (((Since.refl w b (b+1) g).any K0.o).trans hs1);have C1:=aab hc1;have R1:=aab (hs1.blk R0.o (by omega) (by omega));have n1:=hs1.ne (b:=w.heap.size+1) R0.o.lt (by omega);have r1:=R1.o.all;have rf1:=R1.o.fz;clear hc1 hs1);have K2:=(((((ak W1 (w.heap.size+1) 0 (iv F.v)).one 1 (iv F.pc)).one 2 (iv F.ad)).one 3 (iv F.wo)).one 4 (.bool F.wr))
 refine bodyPost_ret (v:=.tuple #[iv V,.agg (ftA F)]) ?_ rfl ⟨g',rfl,C1.o.kept K2 (by omega) (by omega),S1.o.mine K2 (by omega)⟩;rw [gJ rfl];go_simp
theorem Qk (z a k v:Int) (hC:CAt w lo b g c h) (hg:Pl.Good c.r) (hz:z=1∨z=2) (k0:0<=k) (k3:k<=3) (hv:okv z v=true) :
  Calls prog 254 #[.pointer (some (aac b 0)),.agg #[.iface 228 (.agg #[iv k]),iv z,iv a],iv v] w fun e w'=>e=.returned (.agg ftZ)∧CAt w' lo b g (c.put z k v) h∧Kept b (b+1) w w':=by
 have t0:=Vs;have HGd:=aab hg;have HV:=aab hv;obtain ⟨l0,l1,l2,l3,l4⟩:=hC.lt;have K0:=aab (ag (kept_alloc w (.cells #[.iface 228 (.agg #[iv k]),iv z,iv a] 239)) (.cells ftZ 42));have C0:=aab ((hC.alloc (.cells #[.iface 228 (.agg #[iv k]),iv z,iv a] 239)).alloc (.cells ftZ 42));have I0:=aab ((Blk.new w #[.iface 228 (.agg #[iv k]),iv z,iv a] 239).alloc (.cells ftZ 42));have R0:=Blk.new (w.alloc (.cells #[.iface 228 (.agg #[iv k]),iv z,iv a] 239)) ftZ 42;simp only [World.size_alloc] at R0;replace R0:=aab R0;obtain ⟨X,hX⟩:∃X:World,(w.alloc (.cells #[.iface 228 (.agg #[iv k]),iv z,iv a] 239)).alloc (.cells ftZ 42)=X:=⟨_,rfl⟩
 rw [hX] at K0 C0 I0 R0;have p:=I0.o.all;have r:=R0.o.all;have rf:=R0.o.fz;have sX:w.heap.size+1<X.heap.size:=R0.o.lt;have K1:=aab (ag K0.o (.cells #[iv k] 228));have C1:=aab (C0.o.alloc (.cells #[iv k] 228));have R1:=aab (R0.o.alloc (.cells #[iv k] 228));have I1:=aab (I0.o.alloc (.cells #[iv k] 228));have N1:=aab (Blk.new X #[iv k] 228);obtain ⟨W1,hW⟩:∃W:World,X.alloc (.cells #[iv k] 228)=W:=⟨_,rfl⟩
 rw [hW] at K1 C1 R1 I1 N1;have p1:=I1.o.all;have r1:=R1.o.all;have rf1:=R1.o.fz;have n1:=N1.o.all;have nf1:=N1.o.fz;have s1:X.heap.size<W1.heap.size:=N1.o.lt;clear hC hg hv;go_enter func254,ntmps254;go_wp2_with fail;clear hW hX p r rf p1 r1 rf1 n1;have n1:=N1.o.cell (i:=0) rfl;have i1:=I1.o.cell (i:=1) rfl
 go_region_held3 (fun w'=>w'.cell? (aac X.heap.size 0)=some (iv k)∧w'.cell? (aac w.heap.size 1)=some (iv z)) (first|with_reducible exact ⟨N2.o.cell (i:=0) rfl,I2.o.cell (i:=1) rfl⟩|exact ⟨(show Blk _ _ _ _ from N1.o).cell (i:=0) rfl,(show Blk _ _ _ _ from I1.o).cell (i:=1) rfl⟩)
  (first|(go_at_call 252;refine (Me _ lo b g c h z k v C1.o.drew HGd.o k0 k3 hz HV.o).mono ?_;rintro e9 W2 ⟨rfl,hc2,kd⟩;have k2:=aK kd;have C2:=aab hc2;have N2:=aab (N1.o.kept k2 (by omega));have I2:=aab (I1.o.kept k2 (by omega));have R2:=aab (R1.o.kept k2 (by omega));have K2:=aab (K1.o.any.trans k2);clear hc2 kd k2))
 have r2:=R2.o.all;have rf2:=R2.o.fz;go_wp2_with fail;have K3:=(((((ak W2 (w.heap.size+1) 0 (iv 0)).one 1 (iv 0)).one 2 (iv 0)).one 3 (iv 0)).one 4 (.bool false))
 refine bodyPost_ret (v:=.agg ftZ) ?_ rfl ⟨rfl,C2.o.kept K3 (by omega) (by omega),Ru K2.o K3 (by omega)⟩;rw [aj rfl];go_simp
theorem rF (z a v:Int) (T:TypeId) (U:Value) (t0:∀w,(Instr.typeAssert (.iface T U) 196 228 true).run prog w=.ok (.tuple #[.agg #[iv 0],.bool false]) w) (hC:CAt w lo b g c h) (G:GM c) (hf:c.f=aG) (ha:eP 2 z a v=true) :
  Calls prog 254 #[.pointer (some (aac b 0)),.agg #[.iface T U,iv z,iv a],iv v] w fun e w'=>∃g',e=.returned (.agg (ftC (c.acc 2 z a v).f))∧CAt w' lo b g' (c.acc 2 z a v) h∧Since w b (b+1) g w' g':=by
 have HA:=aab ha;have HG:=aab G;obtain ⟨F,hF⟩:∃F,F=Mc.dm aG 2 z a:=⟨_,rfl⟩
 have HF:=aab hF;rw [show (c.acc 2 z a v).f=F by show Mc.dm c.f 2 z a=F;rw [hf,hF]];obtain ⟨l0,l1,l2,l3,l4⟩:=hC.lt;have K0:=aab (ag (kept_alloc w (.cells #[.iface T U,iv z,iv a] 239)) (.cells ftZ 42));have C0:=aab ((hC.alloc (.cells #[.iface T U,iv z,iv a] 239)).alloc (.cells ftZ 42));have I0:=aab ((Blk.new w #[.iface T U,iv z,iv a] 239).alloc (.cells ftZ 42));have R0:=Blk.new (w.alloc (.cells #[.iface T U,iv z,iv a] 239)) ftZ 42;simp only [World.size_alloc] at R0;replace R0:=aab R0;obtain ⟨X,hX⟩:∃X:World,(w.alloc (.cells #[.iface T U,iv z,iv a] 239)).alloc (.cells ftZ 42)=X:=⟨_,rfl⟩
 rw [hX] at K0 C0 I0 R0;have p:=I0.o.all;have r:=R0.o.all;have rf:=R0.o.fz;have sX:w.heap.size+1<X.heap.size:=R0.o.lt;have K1:=aab (ag K0.o (.cells #[iv 0] 228));have C1:=aab (C0.o.alloc (.cells #[iv 0] 228));have R1:=aab (R0.o.alloc (.cells #[iv 0] 228));have I1:=aab (I0.o.alloc (.cells #[iv 0] 228));have N1:=aab (Blk.new X #[iv 0] 228);obtain ⟨W1,hW⟩:∃W:World,X.alloc (.cells #[iv 0] 228)=W:=⟨_,rfl⟩
 rw [hW] at K1 C1 R1 I1 N1;have p1:=I1.o.all;have r1:=R1.o.all;have rf1:=R1.o.fz;have n1:=N1.o.all;have nf1:=N1.o.fz;have s1:X.heap.size<W1.heap.size:=N1.o.lt;have C1b:=aab (C1.o.other X.heap.size 0 (iv 0) (by omega) (by omega));have K1b:=aab (aH K1.o (ak W1 X.heap.size 0 (iv 0)) (by omega));have R1b:=aab (R1.o.other X.heap.size 0 (iv 0) (by omega));clear hC G hF ha;go_enter func254,ntmps254;go_wp2_with (go_at_call 187;refine (jS _ lo b g c h 2 z a v C1b.o HG.o HA.o 0 (aab rfl) F HF).mono ?_;rintro e9 W2 ⟨g',rfl,hc2,hs2⟩;unfold ftC;have S2:=aab ((((Since.refl w b (b+1) g).any K1b.o).trans hs2).alloc (.cells (ftA F) 42));have C2:=aab (hc2.alloc (.cells (ftA F) 42));have R2:=aab ((hs2.blk R1b.o (by omega) (by omega)).alloc (.cells (ftA F) 42));have n2:=hs2.ne (b:=w.heap.size+1) R1b.o.lt (by omega);have r2:=R2.o.all;have rf2:=R2.o.fz;clear hc2 hs2);have K3:=(((((ak (W2.alloc (.cells (ftA F) 42)) (w.heap.size+1) 0 (iv F.v)).one 1 (iv F.pc)).one 2 (iv F.ad)).one 3 (iv F.wo)).one 4 (.bool F.wr))
 refine bodyPost_ret (v:=.agg (ftA F)) ?_ rfl ⟨g',rfl,C2.o.kept K3 (by omega) (by omega),S2.o.mine K3 (by omega)⟩;rw [aj rfl];go_simp
theorem Md (z m k e:Int) (hC:CAt w lo b g (c.slot z m k e) h) (G:GM c) (hf:c.f=aG) (hz:z=1∨z=2) (m0:0<=m) (m7:m<=7) (k0:0<=k) (k3:k<=3) (x0:0<=e) (x1:e<=65535) :
  Calls prog 249 #[.pointer (some (aac b 0)),.agg #[AL m k e,iv z,iv (c.readA z m k e)]] w fun r w'=>∃g',r=.returned (.tuple #[iv (c.bC z m k e),.agg (ftC (c.read z m k e).f)])∧CAt w' lo b g' (c.read z m k e) h∧Since w b (b+1) g w' g':=by
 have hm:m=0∨m=1∨m=2∨m=3∨m=4∨m=5∨m=6∨m=7:=by omega
 have q:=jc G.g (z:=z) (m:=m) k0 k3 x0 x1;rcases hm with rfl|rfl|rfl|rfl|rfl|rfl|rfl|rfl
 ·refine (UI w lo b g c h z _ k hC hz k0 k3).mono ?_;rintro e9 w9 ⟨rfl,hc,hk⟩;exact ⟨g,by rw [show (c.read z 0 k e).f=aG from hf];rfl,hc,(Since.refl _ _ _ _).any hk⟩
 ·refine (UH w lo b g c h z _ k hC k0 k3).mono ?_;rintro e9 w9 ⟨rfl,hc,hk⟩;exact ⟨g,by rw [show (c.read z 1 k e).f=aG from hf];rfl,hc,(Since.refl _ _ _ _).any hk⟩
 ·exact ww w lo b g (c.plc z 2 k e) h z _ _ _ (Vr _) (Yd _) (Yc _) hC (G.plc k0 k3) hf hz q.1 q.2
 ·exact ww w lo b g (c.plc z 3 k e) h z _ _ _ (Vq _) (Yb _) (Ya _) hC (G.plc k0 k3) hf hz q.1 q.2
 ·exact ww w lo b g (c.plc z 4 k e) h z _ _ _ (Vp _) (X9 _) (X8 _) hC (G.plc k0 k3) hf hz q.1 q.2
 ·exact ww w lo b g (c.plc z 5 k e) h z _ _ _ (Vo _) (X7 _) (XZ _) hC (G.plc k0 k3) hf hz q.1 q.2
 ·exact ww w lo b g (c.plc z 6 k e) h z _ _ _ (Vm _) (XY _) (XX _) hC (G.plc k0 k3) hf hz q.1 q.2
 ·refine (UG w lo b g c h z _ e hC).mono ?_;rintro e9 w9 ⟨rfl,hc,hk⟩;exact ⟨g,by rw [show (c.read z 7 k e).f=aG from hf];rfl,hc,(Since.refl _ _ _ _).any hk⟩
theorem uJ (z m k e a v:Int) (hC:CAt w lo b g c h) (G:GM c) (hf:c.f=aG) (hz:z=1∨z=2) (hm:m=0∨(2<=m∧m<=6)) (k0:0<=k) (k3:k<=3) (a0:0<=a) (a1:a<=65535) (hv:okv z v=true) :
  Calls prog 254 #[.pointer (some (aac b 0)),.agg #[AL m k e,iv z,iv a],iv v] w fun r w'=>∃g',r=.returned (.agg (ftC (c.write z m k a v).f))∧CAt w' lo b g' (c.write z m k a v) h∧Since w b (b+1) g w' g':=by
 have ha:eP 2 z a v=true:=by
  have h1:Pl.addr a=true:=by simp [Pl.addr];omega
  unfold eP;rw [hv,h1];rfl
 have hm:m=0∨m=2∨m=3∨m=4∨m=5∨m=6:=by omega
 rcases hm with rfl|rfl|rfl|rfl|rfl|rfl
 ·refine (Qk w lo b g c h z a k v hC G.g hz k0 k3 hv).mono ?_;rintro e9 w9 ⟨rfl,hc,hk⟩;exact ⟨g,by rw [show (c.write z 0 k a v).f=aG from hf];rfl,hc,(Since.refl _ _ _ _).ai hk (Nat.le_refl _) (Nat.le_refl _)⟩
 ·exact rF w lo b g c h z a v _ _ (Vr _) hC G hf ha
 ·exact rF w lo b g c h z a v _ _ (Vq _) hC G hf ha
 ·exact rF w lo b g c h z a v _ _ (Vp _) hC G hf ha
 ·exact rF w lo b g c h z a v _ _ (Vo _) hC G hf ha
 ·exact rF w lo b g c h z a v _ _ (Vm _) hC G hf ha
theorem MC (v:Int) (hC:CAt w lo b g c h) (G:GM c) (hf:c.f=aG) (v0:0<=v) (v1:v<=65535) :
  Calls prog 201 #[.pointer (some (aac b 0)),iv v] w fun e w'=>∃g',e=.returned (.agg (ftC (c.push v).f))∧CAt w' lo b g' (c.push v) h∧Since w b (b+1) g w' g':=by
 have HA:=aab (rG (c:=c) v0 v1);obtain ⟨F,hF⟩:∃F,F=Mc.dm aG 2 2 c.spA:=⟨_,rfl⟩
 have HF:=aab hF;have EF:Hid ((c.acc 2 2 c.spA v).f=F):=aab (by show Mc.dm c.f 2 2 c.spA=F;rw [hf,hF]);obtain ⟨A,hA⟩:∃A,A=c.spA:=⟨_,rfl⟩
 rw [<-hA] at HA HF EF;have eA:(el c.r.ys 3-2)%65536=A:=hA.symm;have HPA:Hid (c.spA=A):=aab hA.symm;clear hA hF;obtain ⟨l0,l1,l2,l3,l4⟩:=hC.lt;obtain ⟨a30,a31⟩:=G.g.aw 3 (by omega);have h4:=aab G.g.a4;have HG:=aab G;have C0:=aab (hC.alloc (.cells ftZ 42));have R0:=aab (Blk.new w ftZ 42);have K0:=aab (kept_alloc w (.cells ftZ 42));obtain ⟨X,hX⟩:∃X:World,w.alloc (.cells ftZ 42)=X:=⟨_,rfl⟩
 rw [hX] at C0 R0 K0;have x7:X.cell? (aac b 7)=some (iv (el c.r.ys 3)):=C0.o.cY (k:=3) (by omega);clear hC G;cases hv:(F.v != 0)
 ·have E:Hid (c.push v=(c.acc 2 2 A v).fB 3 A):=aab (by
   unfold Mc.push;rw [HPA.o]
   rw [show (c.acc 2 2 A v).fine=true by unfold Mc.fine;rw [EF.o];simpa using hv];rfl)
  go_enter func201,ntmps201;go_wp2_with (first|(go_at_call 178;refine st (gX _ _) ?_;rw [eA])|(go_at_call 187;refine (jS _ lo b g c h 2 2 A v C0.o HG.o HA.o 0 (aab rfl) F HF).mono ?_;rintro e w3 ⟨g',rfl,hc3,hs3⟩;unfold ftC;have S3:=aab (((Since.refl w b (b+1) g).any K0.o).trans hs3);have R3:=aab ((hs3.blk R0.o (by omega) (by omega)).alloc (.cells (ftA F) 42));have C3:=aab (hc3.alloc (.cells (ftA F) 42));have L3:=aab (Blk.new w3 (ftA F) 42);have z3:=hs3.size;have n3:=hs3.ne (b:=w.heap.size) R0.o.lt (by omega);clear hc3 hs3)|(go_at_call 79;refine (bQ F _).mono ?_;rintro e w4 ⟨rfl,k4⟩;have S4:=aab (S3.o.any ((kept_alloc w3 (.cells (ftA F) 42)).trans k4));have R4:=aab (R3.o.ae k4);have C4:=aab (C3.o.any k4);have L4:=aab (L3.o.ae k4);have y7:w4.cell? (aac b 7)=some (iv (el c.r.ys 3)):=C4.o.cY (k:=3) (by omega);have yf:=C4.o.fz;have q:=L4.o.all;have r:=(show Blk w4 w.heap.size ftZ 42 from R4.o).all;have rf:=R4.o.fz;clear k4;rw [hv]));have K5:=(((((ak w4 w.heap.size 0 (iv F.v)).one 1 (iv F.pc)).one 2 (iv F.ad)).one 3 (iv F.wo)).one 4 (.bool F.wr))
  have C5:=C4.o.uZ h4.o (k:=3) (by omega) A;have S5:=S4.o.set b 7 (iv A) (.inl (by omega));have K5:=(((((ak (w4.setCell (aac b 7) (iv A)) w.heap.size 0 (iv F.v)).one 1 (iv F.pc)).one 2 (iv F.ad)).one 3 (iv F.wo)).one 4 (.bool F.wr))
  refine bodyPost_ret (v:=.agg (ftA F)) ?_ rfl ⟨g',?_,?_,S5.mine K5 (by omega)⟩
  ·rw [aj rfl];go_simp
  ·rw [E.o,show ((c.acc 2 2 A v).fB 3 A).f=F from EF.o];rfl
  ·rw [E.o];exact C5.kept K5 (by omega) (by omega)
 ·have E:Hid (c.push v=c.acc 2 2 A v):=aab (by
   unfold Mc.push;rw [HPA.o]
   rw [show (c.acc 2 2 A v).fine=false by unfold Mc.fine;rw [EF.o];simpa using hv];rfl)
  go_enter func201,ntmps201;go_wp2_with (first|(go_at_call 178;refine st (gX _ _) ?_;rw [eA])|(go_at_call 187;refine (jS _ lo b g c h 2 2 A v C0.o HG.o HA.o 0 (aab rfl) F HF).mono ?_;rintro e w3 ⟨g',rfl,hc3,hs3⟩;unfold ftC;have S3:=aab (((Since.refl w b (b+1) g).any K0.o).trans hs3);have R3:=aab ((hs3.blk R0.o (by omega) (by omega)).alloc (.cells (ftA F) 42));have C3:=aab (hc3.alloc (.cells (ftA F) 42));have L3:=aab (Blk.new w3 (ftA F) 42);have z3:=hs3.size;have n3:=hs3.ne (b:=w.heap.size) R0.o.lt (by omega);clear hc3 hs3)|(go_at_call 79;refine (bQ F _).mono ?_;rintro e w4 ⟨rfl,k4⟩;have S4:=aab (S3.o.any ((kept_alloc w3 (.cells (ftA F) 42)).trans k4));have R4:=aab (R3.o.ae k4);have C4:=aab (C3.o.any k4);have L4:=aab (L3.o.ae k4);have y7:w4.cell? (aac b 7)=some (iv (el c.r.ys 3)):=C4.o.cY (k:=3) (by omega);have yf:=C4.o.fz;have q:=L4.o.all;have r:=(show Blk w4 w.heap.size ftZ 42 from R4.o).all;have rf:=R4.o.fz;clear k4;rw [hv]));have K5:=(((((ak w4 w.heap.size 0 (iv F.v)).one 1 (iv F.pc)).one 2 (iv F.ad)).one 3 (iv F.wo)).one 4 (.bool F.wr))
  refine bodyPost_ret (v:=.agg (ftA F)) ?_ rfl ⟨g',?_,?_,S4.o.mine K5 (by omega)⟩
  ·rw [aj rfl];go_simp
  ·rw [E.o,EF.o];rfl
  ·rw [E.o];exact C4.o.kept K5 (by omega) (by omega)
theorem UJ (hC:CAt w lo b g c h) (G:GM c) (hf:c.f=aG) :
  Calls prog 285 #[.pointer (some (aac b 0))] w fun e w'=>∃g',e=.returned (.tuple #[iv c.dI,.agg (ftC c.pop.f)])∧CAt w' lo b g' (c.pop) h∧Since w b (b+1) g w' g':=by
 obtain ⟨l0,l1,l2,l3,l4⟩:=hC.lt;obtain ⟨a30,a31⟩:=G.g.aw 3 (by omega);have h4:=aab G.g.a4;have HG:=aab G;have C0:=aab (hC.alloc (.cells ftZ 42));have R0:=aab (Blk.new w ftZ 42);have K0:=aab (kept_alloc w (.cells ftZ 42));obtain ⟨X,hX⟩:∃X:World,w.alloc (.cells ftZ 42)=X:=⟨_,rfl⟩
 rw [hX] at C0 R0 K0;have x7:X.cell? (aac b 7)=some (iv (el c.r.ys 3)):=C0.o.cY (k:=3) (by omega);clear hC G;have HA:=aab (dX (k:=1) (.inl rfl) a30 a31);obtain ⟨F,hF⟩:∃F,F=Mc.dm aG 1 2 (el c.r.ys 3):=⟨_,rfl⟩
 have HF:=aab hF;have EF:Hid ((c.acc 1 2 (el c.r.ys 3) 0).f=F):=aab (by show Mc.dm c.f 1 2 _=F;rw [hf,hF]);obtain ⟨V,hV⟩:∃V,V=c.dI:=⟨_,rfl⟩
 have HV:Hid (V=if (1:Int)=2 then 0 else Pl.lv c.bx 1 2 (el c.r.ys 3) 0):=aab hV;rw [<-hV];clear hF hV;cases hv:(F.v != 0)
 ·have E:Hid (c.pop=(c.acc 1 2 (el c.r.ys 3) 0).fB 3 ((el c.r.ys 3+2)%65536)):=aab (by
   unfold Mc.pop
   rw [show (c.acc 1 2 (el c.r.ys 3) 0).fine=true by unfold Mc.fine;rw [EF.o];simpa using hv];rfl)
  go_enter func285,ntmps285;go_wp2_with (first|(go_at_call 187;refine (jS _ lo b g c h 1 2 (el c.r.ys 3) 0 C0.o HG.o HA.o V HV F HF).mono ?_;rintro e w3 ⟨g',rfl,hc3,hs3⟩;unfold ftC;have S3:=aab (((Since.refl w b (b+1) g).any K0.o).trans hs3);have R3:=aab ((hs3.blk R0.o (by omega) (by omega)).alloc (.cells (ftA F) 42));have C3:=aab (hc3.alloc (.cells (ftA F) 42));have L3:=aab (Blk.new w3 (ftA F) 42);have z3:=hs3.size;have n3:=hs3.ne (b:=w.heap.size) R0.o.lt (by omega);clear hc3 hs3)|(go_at_call 79;refine (bQ F _).mono ?_;rintro e w4 ⟨rfl,k4⟩;have S4:=aab (S3.o.any ((kept_alloc w3 (.cells (ftA F) 42)).trans k4));have R4:=aab (R3.o.ae k4);have C4:=aab (C3.o.any k4);have L4:=aab (L3.o.ae k4);have y7:w4.cell? (aac b 7)=some (iv (el c.r.ys 3)):=C4.o.cY (k:=3) (by omega);have yf:=C4.o.fz;have q:=L4.o.all;have r:=(show Blk w4 w.heap.size ftZ 42 from R4.o).all;have rf:=R4.o.fz;clear k4;rw [hv]));go_region_with (first|(go_at_call 178;refine st (gX _ _) ?_));go_wp2_with fail;go_region;go_wp2_with fail;have C5:=C4.o.uZ h4.o (k:=3) (by omega) ((el c.r.ys 3+2)%65536);have S5:=S4.o.set b 7 (iv ((el c.r.ys 3+2)%65536)) (.inl (by omega));have K5:=ah (ah ((((((ak (w4.setCell (aac b 7) (iv ((el c.r.ys 3+2)%65536))) w.heap.size 0 (iv F.v)).one 1 (iv F.pc)).one 2 (iv F.ad)).one 3 (iv F.wo)).one 4 (.bool F.wr))));refine bodyPost_ret (v:=.tuple #[iv V,.agg (ftA F)]) ?_ rfl ⟨g',?_,?_,S5.mine K5 (by omega)⟩
  ·rw [gJ rfl];go_simp
  ·rw [E.o,show ((c.acc 1 2 (el c.r.ys 3) 0).fB 3 ((el c.r.ys 3+2)%65536)).f=F from EF.o];rfl
  ·rw [E.o];exact C5.kept K5 (by omega) (by omega)
 ·have E:Hid (c.pop=c.acc 1 2 (el c.r.ys 3) 0):=aab (by
   unfold Mc.pop
   rw [show (c.acc 1 2 (el c.r.ys 3) 0).fine=false by unfold Mc.fine;rw [EF.o];simpa using hv];rfl)
  go_enter func285,ntmps285;go_wp2_with (first|(go_at_call 187;refine (jS _ lo b g c h 1 2 (el c.r.ys 3) 0 C0.o HG.o HA.o V HV F HF).mono ?_;rintro e w3 ⟨g',rfl,hc3,hs3⟩;unfold ftC;have S3:=aab (((Since.refl w b (b+1) g).any K0.o).trans hs3);have R3:=aab ((hs3.blk R0.o (by omega) (by omega)).alloc (.cells (ftA F) 42));have C3:=aab (hc3.alloc (.cells (ftA F) 42));have L3:=aab (Blk.new w3 (ftA F) 42);have z3:=hs3.size;have n3:=hs3.ne (b:=w.heap.size) R0.o.lt (by omega);clear hc3 hs3)|(go_at_call 79;refine (bQ F _).mono ?_;rintro e w4 ⟨rfl,k4⟩;have S4:=aab (S3.o.any ((kept_alloc w3 (.cells (ftA F) 42)).trans k4));have R4:=aab (R3.o.ae k4);have C4:=aab (C3.o.any k4);have L4:=aab (L3.o.ae k4);have y7:w4.cell? (aac b 7)=some (iv (el c.r.ys 3)):=C4.o.cY (k:=3) (by omega);have yf:=C4.o.fz;have q:=L4.o.all;have r:=(show Blk w4 w.heap.size ftZ 42 from R4.o).all;have rf:=R4.o.fz;clear k4;rw [hv]));go_region;go_wp2_with fail;have K5:=ah ((((((ak w4 w.heap.size 0 (iv F.v)).one 1 (iv F.pc)).one 2 (iv F.ad)).one 3 (iv F.wo)).one 4 (.bool F.wr)));refine bodyPost_ret (v:=.tuple #[iv V,.agg (ftA F)]) ?_ rfl ⟨g',?_,?_,S4.o.mine K5 (by omega)⟩
  ·rw [gJ rfl];go_simp
  ·rw [E.o,EF.o];rfl
  ·rw [E.o];exact C4.o.kept K5 (by omega) (by omega)
end Go.Proofs.YtgikibaajanjiaaGreatDoor
namespace Go.Proofs.YtgikibaajanjiaaGreatDoor.Pl
set_option linter.unusedVariables false
def ve (a b:In):Bool:=(a.op==b.op)&&((a.z==b.z)&&((a.r==b.r)&&((a.m==b.m)&&((a.k==b.k)&&((a.e==b.e)&&(a.s==b.s))))))
def fits (x:In):Bool:=ve (decode (nO x%65536) x.e) x
def KL (x:In):Bool := !(x.m==7)||(!(x.z==1)||within x.e 0 255)
theorem vX (w v:Int):(decode w v).e=bif jL (w/32%8) then v else 0:=by
 show (if dW w=2 then v else 0)=_
 unfold dW;cases jL (w/32%8)<;>simp
theorem vU (x:In):fits x=true↔(0<=x.op∧x.op<=31)∧(1<=x.z∧x.z<=2)∧(0<=x.r∧x.r<=3)∧(0<=x.m∧x.m<=7)∧(0<=x.k∧x.k<=3)∧(0<=x.s∧x.s<=7)∧(jL x.m=false->x.e=0):=by
 obtain ⟨op,z,r,m,k,e,s⟩:=x;unfold fits;have hW:nO ⟨op,z,r,m,k,e,s⟩%65536=(op*2048+(z-1)*1024+r*256+m*32+k*8+s)%65536:=rfl;generalize nO ⟨op,z,r,m,k,e,s⟩%65536=W at hW;unfold ve;rw [vX];simp only [decode,Bool.and_eq_true,beq_iff_eq];constructor
 ·rintro ⟨h1,h2,h3,h4,h5,h6,h7⟩;refine ⟨⟨by omega,by omega⟩,⟨by omega,by omega⟩,⟨by omega,by omega⟩,⟨by omega,by omega⟩,⟨by omega,by omega⟩,⟨by omega,by omega⟩,fun q => ?_⟩;rw [h4,q] at h6;simpa using h6.symm
 ·rintro ⟨⟨a1,a2⟩,⟨b1,b2⟩,⟨c1,c2⟩,⟨d1,d2⟩,⟨e1,e2⟩,⟨f1,f2⟩,g⟩;have hm:W/32%8=m:=by omega
  refine ⟨by omega,by omega,by omega,hm,by omega,?_,by omega⟩;rw [hm];cases q:jL m
  ·rw [g q];rfl
  ·rfl
theorem ok_of_fits (x:In):bJ x=(fits x&&(iL x.m x.k x.e&&(KL x&&ax x))):=by
 cases hf:fits x
 ·cases hq:bJ x
  ·rfl
  ·exfalso
   have h:=Rl hq;have:fits x=true:=(vU x).2 ⟨by omega,by omega,by omega,by omega,by omega,by omega,h.2.2.2.2.2.2.2.2.2.2.2.2.2⟩;rw [hf] at this;cases this
 ·obtain ⟨a,b,c,d,e,f,g⟩:=(vU x).1 hf;obtain ⟨op,z,r,m,k,e',s⟩:=x;simp only at a b c d e f g;unfold bJ inBase KL lF;simp only;have w1:within r 0 3=true:=by simp [within];omega
  have w2:within s 0 7=true:=by simp [within];omega
  have w3:(decide (z=1)||decide (z=2))=true:=by simp;omega
  rw [w1,w2,w3];cases ho:iL m k e'
  ·simp
  ·have:0<=e':=by simp [iL,aJ,within] at ho;omega
   have w4:(!((m==7)&&(z==1)&&decide (255<e')))=(!(m==7)||(!(z==1)||within e' 0 255)):=by
    rw [Bool.eq_iff_iff];simp [within];omega
   rw [w4];simp
end Go.Proofs.YtgikibaajanjiaaGreatDoor.Pl
namespace Go.Proofs.YtgikibaajanjiaaGreatDoor
open Pl
open Go.RowKit Go.Proofs.Tryz
set_option linter.unusedVariables false
def G8 (md:Region.Mode) (ops:Array Oper) (i k:Nat):Bool:=((ops[i]?).map fun o=>o.after.any fun e=>Region.binds md e&&e.on==k).getD false
theorem jG {md:Region.Mode} {ops:Array Oper} {l:Array Bool} {i:Nat} (h:i∈Region.ready md ops l):i<ops.size∧l.getD i true=false:=by
 unfold Region.ready at h;rw [List.mem_filter,Bool.and_eq_true] at h;refine ⟨List.mem_range.1 h.1,?_⟩;have:=h.2.1;revert this;cases l.getD i true<;>simp
theorem F9 {l:Array Bool} {k:Nat} (h:l.getD k false=true):l.getD k true=true:=by
 unfold Array.getD at *;split
 ·rename_i hk;simpa [hk] using h
 ·rfl
theorem az {md:Region.Mode} {ops:Array Oper} {l:Array Bool} {i:Nat} (h:i∈Region.ready md ops l) (k:Nat) (hk:G8 md ops i k=true):l.getD k true=true:=by
 unfold Region.ready at h;rw [List.mem_filter,Bool.and_eq_true] at h;have h2:=h.2.2;unfold G8 at hk;cases ho:ops[i]? with
 | none=>rw [ho] at hk;simp at hk
 | some o=>
  rw [ho] at hk h2;simp only [Option.map_some,Option.getD_some] at hk h2;rw [Array.any_eq_true'] at hk;obtain ⟨e,he,hb⟩:=hk;rw [Array.all_eq_true'] at h2;have h3:=h2 e he;rw [Bool.and_eq_true] at hb;rw [hb.1] at h3;have h4:e.on=k:=by simpa using hb.2
  rw [h4] at h3;exact F9 (by simpa using h3)
theorem filter_lt {xs:List Nat} {p q:Nat->Bool} (hpq:∀x,q x=true->p x=true) {i:Nat} (hi:i∈xs) (hp:p i=true) (hq:q i=false):(xs.filter q).length<(xs.filter p).length:=by
 induction xs with
 | nil=>cases hi
 | cons x t ih=>
  have hle:(t.filter q).length<=(t.filter p).length:=by
   clear ih hi;induction t with
   | nil=>simp
   | cons y t ih=>
    cases h1:q y
    ·cases h2:p y<;>simp [h1,h2]<;>omega
    ·simp [h1,hpq y h1];exact ih
  rcases List.mem_cons.1 hi with rfl|hi
  ·simp [hp,hq];omega
  ·have:=ih hi
   cases h1:q x
   ·cases h2:p x<;>simp [h1,h2]<;>omega
   ·simp [h1,hpq x h1];exact this
theorem getD_set_ne {l:Array Bool} {i j:Nat} (h:j≠i):(l.setIfInBounds i true).getD j true=l.getD j true:=by
 simp only [Array.getD_eq_getD_getElem?];rw [Array.getElem?_setIfInBounds_ne (Ne.symm h)]
theorem gI {l:Array Bool} {i:Nat}:(l.setIfInBounds i true).getD i true=true:=by
 simp only [Array.getD_eq_getD_getElem?,Array.getElem?_setIfInBounds];split
 ·split<;>rfl
 ·rename_i h;exact absurd trivial h
theorem ED {P:Program} {md:Region.Mode} {ops:Array Oper} {Q:Exit->Act->World->Prop} {I:Array Bool->Act->World->Prop}
  (hfin:∀l a w,l.size=ops.size->I l a w->Region.ready md ops l=[]->Q .normal a w)
  (hstep:∀l a w i,I l a w->i∈Region.ready md ops l->wpOp P ops Q i (I (l.setIfInBounds i true)) a w) :
  ∀(fuel:Nat) (l:Array Bool) (a:Act) (w:World),l.size=ops.size->((List.range ops.size).filter fun i => !l.getD i true).length<=fuel->I l a w->wpAny P md ops Q fuel l a w:=by
 intro fuel;induction fuel with
 | zero=>
  intro l a w hz hn hI
  have h0:Region.ready md ops l=[]:=by
   cases hr:Region.ready md ops l with
   | nil=>rfl
   | cons i t=>
    exfalso
    have hi:i∈Region.ready md ops l:=by rw [hr];simp
    obtain ⟨h1,h2⟩:=jG hi;have:i∈(List.range ops.size).filter fun i => !l.getD i true:=List.mem_filter.2 ⟨List.mem_range.2 h1,by rw [h2];rfl⟩;have:=List.length_pos_of_mem this;omega
  exact ⟨h0,hfin l a w hz hI h0⟩
 | succ n ih=>
  intro l a w hz hn hI;refine ⟨fun h0=>hfin l a w hz hI h0,fun i hi => ?_⟩;refine wpOp_mono (fun a' w' h'=>ih _ a' w' (by simp [hz]) ?_ h') (hstep l a w i hI hi);obtain ⟨h1,h2⟩:=jG hi
  have:=filter_lt (xs:=List.range ops.size) (p:=fun j => !l.getD j true) (q:=fun j => !(l.setIfInBounds i true).getD j true) (i:=i) (by
   intro x hx;by_cases e:x=i
   ·subst e;rw [h2];rfl
   ·rw [getD_set_ne e] at hx;exact hx) (List.mem_range.2 h1) (by rw [h2];rfl) (by rw [gI];rfl)
  omega
def TL (md:Region.Mode) (ops:Array Oper):Bool:=(List.range ops.size).all fun i=>((ops[i]?).map fun o=>o.after.all fun e => !Region.binds md e||decide (e.on<i)).getD true
theorem Bl {md:Region.Mode} {ops:Array Oper} {l:Array Bool} (hz:l.size=ops.size) (hB:TL md ops=true) (h0:Region.ready md ops l=[]):∀i,i<ops.size->l.getD i true=true:=by
 intro i;induction i using Nat.strongRecOn with
 | ind i ih=>
  intro hi;cases hl:l.getD i true
  ·exfalso
   have hm:i∈Region.ready md ops l:=by
    unfold Region.ready;rw [List.mem_filter,Bool.and_eq_true];refine ⟨List.mem_range.2 hi,by rw [hl];rfl,?_⟩;have hb:=List.all_eq_true.1 hB i (List.mem_range.2 hi);rw [Array.getElem?_eq_getElem hi] at hb ⊢;simp only [Option.map_some,Option.getD_some] at hb ⊢;rw [Array.all_eq_true'] at hb ⊢;intro e he;have h1:=hb e he;rw [Bool.or_eq_true] at h1 ⊢;rcases h1 with h1|h1
    ·exact .inl h1
    ·have h2:e.on<i:=by simpa using h1
     have h3:=ih e.on h2 (by omega);refine .inr ?_;unfold Array.getD at h3 ⊢;split
     ·rename_i hk;simpa [hk] using h3
     ·rename_i hk;omega
   rw [h0] at hm;cases hm
  ·rfl
theorem wI {P:Program} {ops:Array Oper} {Q:Exit->Act->World->Prop} {id:Nat} {a:Act} {w:World} (I:Array Bool->Act->World->Prop) (hm:P.follows .mixedOrders=true) (hB:TL .any ops=true)
  (hstart:I (Array.replicate ops.size false) a w.drew)
  (hfin:∀l a w,I l a w->(∀i,i<ops.size->l.getD i true=true)->Q .normal a w)
  (hstep:∀l a w i,I l a w->i∈Region.ready .any ops l->wpOp P ops Q i (I (l.setIfInBounds i true)) a w) :
  (Code.region id ops true).wp P Q a w:=by
 refine wp_region_any hm (ED (I:=I) (fun l a w hz h h0=>hfin l a w h (Bl hz hB h0)) hstep _ _ _ _ (by simp) ?_ hstart);exact Nat.le_trans (List.length_filter_le _ _) (by simp)
def Once (l:Array Bool) (i:Nat) (p:Prop):Prop:=l.getD i true=true->p
theorem Once.past {l:Array Bool} {i j:Nat} {p q:Prop} (h:Once l j p) (hn:j≠i) (hp:p->q):Once (l.setIfInBounds i true) j q:=fun e=>hp (h (by rwa [getD_set_ne hn] at e))
theorem Once.now {l:Array Bool} {i j:Nat} {p:Prop} (h:p):Once (l.setIfInBounds i true) j p:=fun _=>h
theorem ay {n i:Nat} {p:Prop} (hi:i<n):Once (Array.replicate n false) i p:=by
 intro e;simp [Array.getD_eq_getD_getElem?,hi] at e
theorem lS {n i:Nat} (hi:i<n):(Array.replicate n false).getD i true=false:=by
 simp [Array.getD_eq_getD_getElem?,hi]
structure FR (SL:List Nat) (A0 A:Act):Prop where
 size:A.tmps.size=A0.tmps.size
 defers:A.defers=A0.defers
 o:∀k,k∉SL->A.tmps[k]? = A0.tmps[k]?
theorem FR.refl (SL:List Nat) (A:Act):FR SL A A:=⟨rfl,rfl,fun _ _=>rfl⟩
theorem Bq {A:Act} {j k:Nat} {v:Value} (h:k≠j):(A.put (some j) v).tmps[k]? = A.tmps[k]? := by
 show (A.tmps.setIfInBounds j v)[k]? = _
 rw [Array.getElem?_setIfInBounds_ne (Ne.symm h)]
theorem put_eq {A:Act} {k:Nat} {v:Value} (h:k<A.tmps.size):(A.put (some k) v).tmps[k]? = some v:=by
 show (A.tmps.setIfInBounds k v)[k]? = _
 rw [Array.getElem?_setIfInBounds];simp [h]
theorem FR.put {SL:List Nat} {A0 A:Act} (h:FR SL A0 A) {k:Nat} (hk:k∈SL) (v:Value):FR SL A0 (A.put (some k) v):=by
 refine ⟨?_,h.defers,fun j hj => ?_⟩
 ·show (A.tmps.setIfInBounds k v).size=_
  rw [Array.size_setIfInBounds];exact h.size
 ·rw [Bq (fun e=>hj (by rw [e];exact hk))];exact h.o j hj
theorem QO {A B:Act} (hs:A.tmps.size=B.tmps.size) (hd:A.defers=B.defers) (h:∀k:Nat,A.tmps[k]? = B.tmps[k]?):A=B:=by
 cases A;cases B;simp only at hs hd h;subst hd;congr 1;exact Array.ext_getElem? h
theorem Ag {A:Act}:∀(SL:List Nat) (B:Act),A.tmps.size=B.tmps.size->A.defers=B.defers->(∀k,k∉SL->A.tmps[k]? = B.tmps[k]?)->A=SL.foldl (fun a k=>a.put (some k) (A.tmps.getD k undef)) B
 | [],B,hs,hd,h=>QO hs hd (fun k=>h k (by simp))
 | k :: t,B,hs,hd,h=>by
  refine Ag t (B.put (some k) (A.tmps.getD k undef)) ?_ hd (fun j hj => ?_)
  ·show _=(B.tmps.setIfInBounds k _).size
   rw [Array.size_setIfInBounds];exact hs
  ·by_cases e:j=k
   ·subst e;by_cases hb:j<B.tmps.size
    ·rw [put_eq hb];have:j<A.tmps.size:=by omega
     rw [Array.getElem?_eq_getElem this];simp [Array.getD_eq_getD_getElem?,this]
    ·show _=(B.tmps.setIfInBounds j _)[j]?
     rw [Array.getElem?_eq_none (by omega),Array.getElem?_eq_none (by rw [Array.size_setIfInBounds];omega)]
   ·rw [Bq e];exact h j (by simp [e,hj])
theorem FR.chain {SL:List Nat} {A0 A:Act} (h:FR SL A0 A):A=SL.foldl (fun a k=>a.put (some k) (A.tmps.getD k undef)) A0:=Ag SL A0 h.size h.defers h.o
theorem mY {A:Act} {k:Nat} {v:Value} (h:A.tmps[k]? = some v):A.tmps.getD k undef=v:=by
 rw [Array.getD_eq_getD_getElem?,h];rfl
theorem iq {P:Program} {ops:Array Oper} {Q:Exit->Act->World->Prop} {id:Nat} {a:Act} {w:World} (I:Act->Array Bool->Act->World->Prop) (hm:P.follows .mixedOrders=true) (hB:TL .any ops=true)
  (hstart:I a (Array.replicate ops.size false) a w.drew)
  (hfin:∀l A w,I a l A w->(∀i,i<ops.size->l.getD i true=true)->Q .normal A w)
  (hstep:∀l A w i,I a l A w->i∈Region.ready .any ops l->wpOp P ops Q i (I a (l.setIfInBounds i true)) A w) :
  (Code.region id ops true).wp P Q a w:=wI (I a) hm hB hstart hfin hstep
theorem Once.n {l:Array Bool} {i j:Nat} {p:Prop} (h:Once l j p) (h1:j≠i:=by decide):Once (l.setIfInBounds i true) j p:=h.past h1 id
theorem Once.q {l:Array Bool} {i j k d:Nat} {A:Act} {u:Value} {v:Option Value} (h:Once l j (A.tmps[k]? = v)) (h1:j≠i:=by decide) (h2:k≠d:=by decide):Once (l.setIfInBounds i true) j ((A.put (some d) u).tmps[k]? = v):=h.past h1 (fun e=>(Bq h2).trans e)
theorem bfe (b:Bool):b=false∨b=true:=by cases b<;>simp
theorem jM {P:Program} {ops:Array Oper} {Q:Exit->Act->World->Prop} {i:Nat} {o:Oper} {K:Act->World->Prop} {a:Act} {w:World} (ho:ops[i]? = some o) {j s:Nat} {b:Bool} (hg:o.guard=some (j,b)) (hd:(ops[j]?).bind (·.dst)=some s) (hv:a.tmps[s]? = some (.bool b))
  (h:∀K':Act->World->Prop,(∀a w,K a w->K' a w)->Oper.wp P o a w K' Q):wpOp P ops Q i K a w:=by
 refine wpOp_step ho (fun K' hK => ?_);rw [if_pos]
 ·exact h K' hK
 ·unfold Region.wanted yielded;rw [hg];simp only [hd,Option.bind_some,hv];simp
theorem lQ {P:Program} {ops:Array Oper} {Q:Exit->Act->World->Prop} {i:Nat} {o:Oper} {K:Act->World->Prop} {a:Act} {w:World} (ho:ops[i]? = some o) {j s:Nat} {b c:Bool} (hg:o.guard=some (j,b)) (hd:(ops[j]?).bind (·.dst)=some s) (hv:a.tmps[s]? = some (.bool c)) (hn:c≠b)
  (h:K (a.put o.dst undef) w):wpOp P ops Q i K a w:=by
 refine wpOp_step ho (fun K' hK => ?_);rw [if_neg]
 ·exact hK _ _ h
 ·unfold Region.wanted yielded;rw [hg];simp only [hd,Option.bind_some,hv];simpa using hn
theorem oQ (m k e:Int) (w:World) (T N:Nat) (v:Value) (R:Array Value) (E:Bool) (lo : -9223372036854775808<=e) (hi:e<=9223372036854775807)
  (hw:∀w:World,Calls prog 168 #[.agg #[iv m,iv k,iv e]] w fun r w'=>r=.returned (.iface T v)∧Kept 0 0 w w')
  (hme:∀w:World,(method 412 T v "loop.example/g00389/impl.operand").run prog w=.ok (N,v) w)
  (hc:∀w:World,Calls prog N #[v] w fun r w'=>r=.returned (.agg R)∧Kept 0 0 w w')
  (hfn:∀(a:Array Value) (w:World),(callFunc N a).run prog w=.ok (.enter N a) w)
  (he:∀w:World,(binOp .eql 46 (.agg R) (.agg #[iv m,iv k,iv e])).run prog w=.ok (.bool E) w) :
  Calls prog 117 #[.agg #[iv m,iv k,iv e]] w fun r w'=>r=.returned (.bool (E&&(within k 0 3&&aJ e)))∧Kept 0 0 w w':=by
 have B0:=aab (Blk.new w #[iv m,iv k,iv e] 46);have K0:=aab (kept_alloc w (.cells #[iv m,iv k,iv e] 46));obtain ⟨B,hBB⟩:∃B,within k 0 3=B:=⟨_,rfl⟩
 obtain ⟨C,hCC⟩:∃C,aJ e=C:=⟨_,rfl⟩
 go_enter func117,ntmps117;go_wp2_with fail;refine (hw _).mono ?_;rintro r w1 ⟨rfl,k1⟩;have B1:=aab (B0.o.ae k1);have K1:=aab (K0.o.trans k1);clear k1 hw;go_wp2_with fail;refine iq (fun A0 l A W=>FR [6,7,8,9,10,11,12,13,14,15,16,17,18,19,20,21,22,23,2] A0 A∧Once l 0 (A.tmps[6]? = some (.iface T v))∧Once l 1 (A.tmps[7]? = some (.bool true))∧Once l 2 (A.tmps[8]? = some (.bool true))∧Once l 3 (A.tmps[9]? = some (.iface T v))∧Once l 4 (A.tmps[10]? = some (.agg R))∧Once l 5 (A.tmps[11]? = some (.agg #[iv m,iv k,iv e]))∧Once l 6 (A.tmps[12]? = some (.bool E))∧Once l 7 (A.tmps[13]? = some (.bool E))∧Once l 8 (A.tmps[14]? = some (.bool E))∧Once l 9 (A.tmps[15]? = some (bif E then .pointer (some (aac w.heap.size 1)) else undef))∧Once l 10 (A.tmps[16]? = some (bif E then iv k else undef))∧Once l 11 (A.tmps[17]? = some (bif E then .bool B else undef))∧Once l 12 (A.tmps[18]? = some (.bool (E&&B)))∧Once l 13 (A.tmps[19]? = some (.bool (E&&B)))∧Once l 14 (A.tmps[20]? = some (bif (E&&B) then .pointer (some (aac w.heap.size 2)) else undef))∧Once l 15 (A.tmps[21]? = some (bif (E&&B) then iv e else undef))∧Once l 16 (A.tmps[22]? = some (bif (E&&B) then .bool C else undef))∧Once l 17 (A.tmps[23]? = some (.bool ((E&&B)&&C)))∧Once l 18 (A.tmps[2]? = some (.bool ((E&&B)&&C)))∧Kept 0 0 w1 W) (by kernel_rfl) (by kernel_rfl) ?start ?fin ?step
 case start=>exact ⟨FR.refl _ _,ay (by decide),ay (by decide),ay (by decide),ay (by decide),ay (by decide),ay (by decide),ay (by decide),ay (by decide),ay (by decide),ay (by decide),ay (by decide),ay (by decide),ay (by decide),ay (by decide),ay (by decide),ay (by decide),ay (by decide),ay (by decide),ay (by decide),ah (Kept.refl _ _ _)⟩
 case fin=>
  intro l A W h hl;obtain ⟨hFR,o0,o1,o2,o3,o4,o5,o6,o7,o8,o9,o10,o11,o12,o13,o14,o15,o16,o17,o18,hK⟩:=h;have g:=o18 (hl 18 (by decide));have QQ:=aab (K1.o.trans hK);have hc9:=hFR.chain;simp only [List.foldl] at hc9;rw [mY g] at hc9;clear hl hK hFR g o0 o1 o2 o3 o4 o5 o6 o7 o8 o9 o10 o11 o12 o13 o14 o15 o16 o17 o18;generalize A.tmps.getD 6 undef=s6 at hc9;generalize A.tmps.getD 7 undef=s7 at hc9;generalize A.tmps.getD 8 undef=s8 at hc9;generalize A.tmps.getD 9 undef=s9 at hc9;generalize A.tmps.getD 10 undef=s10 at hc9;generalize A.tmps.getD 11 undef=s11 at hc9;generalize A.tmps.getD 12 undef=s12 at hc9;generalize A.tmps.getD 13 undef=s13 at hc9;generalize A.tmps.getD 14 undef=s14 at hc9;generalize A.tmps.getD 15 undef=s15 at hc9;generalize A.tmps.getD 16 undef=s16 at hc9;generalize A.tmps.getD 17 undef=s17 at hc9;generalize A.tmps.getD 18 undef=s18 at hc9;generalize A.tmps.getD 19 undef=s19 at hc9;generalize A.tmps.getD 20 undef=s20 at hc9;generalize A.tmps.getD 21 undef=s21 at hc9;generalize A.tmps.getD 22 undef=s22 at hc9;generalize A.tmps.getD 23 undef=s23 at hc9;subst hc9;go_simp;go_wp2_with fail;go_ret;exact ⟨rB (by rw [<-hBB,<-hCC,Bool.and_assoc]),QQ.o⟩
 case step=>
  intro l A W i hI hm;obtain ⟨hFR,o0,o1,o2,o3,o4,o5,o6,o7,o8,o9,o10,o11,o12,o13,o14,o15,o16,o17,o18,hK⟩:=hI;obtain ⟨hi1,hi2⟩:=jG hm;have hsz:Hid (23<A.tmps.size):=aab (by rw [hFR.size];simp);have m1:A.tmps[1]? = some (.pointer (some (aac w.heap.size 0))):=(hFR.o 1 (by decide)).trans rfl;have m3:A.tmps[3]? = some (.iface T v):=(hFR.o 3 (by decide)).trans rfl;rcases i with _|_|_|_|_|_|_|_|_|_|_|_|_|_|_|_|_|_|_|i
  ·refine wpOp_step rfl (fun KK hK2 => ?_);go_simp;exact hK2 (A.put (some 6) (.iface T v)) _ ⟨hFR.put (by decide) _,.now (put_eq (by have hz:=hsz.o;omega)),o1.q,o2.q,o3.q,o4.q,o5.q,o6.q,o7.q,o8.q,o9.q,o10.q,o11.q,o12.q,o13.q,o14.q,o15.q,o16.q,o17.q,o18.q,hK⟩
  ·have e1:=o0 (az hm 0 (by kernel_rfl));refine wpOp_step rfl (fun KK hK2 => ?_);go_simp;exact hK2 (A.put (some 7) (.bool true)) _ ⟨hFR.put (by decide) _,o0.q,.now (put_eq (by have hz:=hsz.o;omega)),o2.q,o3.q,o4.q,o5.q,o6.q,o7.q,o8.q,o9.q,o10.q,o11.q,o12.q,o13.q,o14.q,o15.q,o16.q,o17.q,o18.q,hK⟩
  ·have e1:=o1 (az hm 1 (by kernel_rfl));refine wpOp_step rfl (fun KK hK2 => ?_);go_simp;exact hK2 (A.put (some 8) (.bool true)) _ ⟨hFR.put (by decide) _,o0.q,o1.q,.now (put_eq (by have hz:=hsz.o;omega)),o3.q,o4.q,o5.q,o6.q,o7.q,o8.q,o9.q,o10.q,o11.q,o12.q,o13.q,o14.q,o15.q,o16.q,o17.q,o18.q,hK⟩
  ·have g:=o2 (az hm 2 (by kernel_rfl));refine jM (b:=true) rfl rfl rfl g (fun KK hK2 => ?_);go_simp;exact hK2 (A.put (some 9) (.iface T v)) _ ⟨hFR.put (by decide) _,o0.q,o1.q,o2.q,.now (put_eq (by have hz:=hsz.o;omega)),o4.q,o5.q,o6.q,o7.q,o8.q,o9.q,o10.q,o11.q,o12.q,o13.q,o14.q,o15.q,o16.q,o17.q,o18.q,hK⟩
  ·have g:=o2 (az hm 2 (by kernel_rfl));have e1:=o3 (az hm 3 (by kernel_rfl));refine jM (b:=true) rfl rfl rfl g (fun KK hK2 => ?_);go_simp;refine (hc W).mono ?_;rintro r y ⟨rfl,kd⟩;go_simp;exact hK2 (A.put (some 10) (.agg R)) _ ⟨hFR.put (by decide) _,o0.q,o1.q,o2.q,o3.q,.now (put_eq (by have hz:=hsz.o;omega)),o5.q,o6.q,o7.q,o8.q,o9.q,o10.q,o11.q,o12.q,o13.q,o14.q,o15.q,o16.q,o17.q,o18.q,(hK.trans kd)⟩
  ·have g:=o2 (az hm 2 (by kernel_rfl));have BL:=B1.o.ae hK;have x0:=BL.all;clear BL;refine jM (b:=true) rfl rfl rfl g (fun KK hK2 => ?_);go_simp;exact hK2 (A.put (some 11) (.agg #[iv m,iv k,iv e])) _ ⟨hFR.put (by decide) _,o0.q,o1.q,o2.q,o3.q,o4.q,.now (put_eq (by have hz:=hsz.o;omega)),o6.q,o7.q,o8.q,o9.q,o10.q,o11.q,o12.q,o13.q,o14.q,o15.q,o16.q,o17.q,o18.q,hK⟩
  ·have g:=o2 (az hm 2 (by kernel_rfl));have e1:=o4 (az hm 4 (by kernel_rfl));have e2:=o5 (az hm 5 (by kernel_rfl));refine jM (b:=true) rfl rfl rfl g (fun KK hK2 => ?_);go_simp;exact hK2 (A.put (some 12) (.bool E)) _ ⟨hFR.put (by decide) _,o0.q,o1.q,o2.q,o3.q,o4.q,o5.q,.now (put_eq (by have hz:=hsz.o;omega)),o7.q,o8.q,o9.q,o10.q,o11.q,o12.q,o13.q,o14.q,o15.q,o16.q,o17.q,o18.q,hK⟩
  ·have e1:=o2 (az hm 2 (by kernel_rfl));have e2:=o6 (az hm 6 (by kernel_rfl));refine wpOp_step rfl (fun KK hK2 => ?_);go_simp;exact hK2 (A.put (some 13) (.bool E)) _ ⟨hFR.put (by decide) _,o0.q,o1.q,o2.q,o3.q,o4.q,o5.q,o6.q,.now (put_eq (by have hz:=hsz.o;omega)),o8.q,o9.q,o10.q,o11.q,o12.q,o13.q,o14.q,o15.q,o16.q,o17.q,o18.q,hK⟩
  ·have e1:=o7 (az hm 7 (by kernel_rfl));refine wpOp_step rfl (fun KK hK2 => ?_);go_simp;exact hK2 (A.put (some 14) (.bool E)) _ ⟨hFR.put (by decide) _,o0.q,o1.q,o2.q,o3.q,o4.q,o5.q,o6.q,o7.q,.now (put_eq (by have hz:=hsz.o;omega)),o9.q,o10.q,o11.q,o12.q,o13.q,o14.q,o15.q,o16.q,o17.q,o18.q,hK⟩
  ·have g:=o8 (az hm 8 (by kernel_rfl));rcases bfe E with hE|hE
   ·rw [hE] at g;refine lQ (b:=true) (c:=false) rfl rfl rfl g (by decide) ?_;exact ⟨hFR.put (by decide) _,o0.q,o1.q,o2.q,o3.q,o4.q,o5.q,o6.q,o7.q,o8.q,.now (by rw [hE];exact put_eq (by have hz:=hsz.o;omega)),o10.q,o11.q,o12.q,o13.q,o14.q,o15.q,o16.q,o17.q,o18.q,hK⟩
   ·rw [hE] at g;refine jM (b:=true) rfl rfl rfl g (fun KK hK2 => ?_);go_simp;exact hK2 (A.put (some 15) (.pointer (some (aac w.heap.size 1)))) _ ⟨hFR.put (by decide) _,o0.q,o1.q,o2.q,o3.q,o4.q,o5.q,o6.q,o7.q,o8.q,.now (by rw [hE];exact put_eq (by have hz:=hsz.o;omega)),o10.q,o11.q,o12.q,o13.q,o14.q,o15.q,o16.q,o17.q,o18.q,hK⟩
  ·have g:=o8 (az hm 8 (by kernel_rfl));have e1:=o9 (az hm 9 (by kernel_rfl));rcases bfe E with hE|hE
   ·rw [hE] at g;refine lQ (b:=true) (c:=false) rfl rfl rfl g (by decide) ?_;exact ⟨hFR.put (by decide) _,o0.q,o1.q,o2.q,o3.q,o4.q,o5.q,o6.q,o7.q,o8.q,o9.q,.now (by rw [hE];exact put_eq (by have hz:=hsz.o;omega)),o11.q,o12.q,o13.q,o14.q,o15.q,o16.q,o17.q,o18.q,hK⟩
   ·rw [hE] at g e1;simp only [cond_true] at e1;have BL:=B1.o.ae hK;have x0:=BL.all;clear BL;refine jM (b:=true) rfl rfl rfl g (fun KK hK2 => ?_);go_simp;exact hK2 (A.put (some 16) (iv k)) _ ⟨hFR.put (by decide) _,o0.q,o1.q,o2.q,o3.q,o4.q,o5.q,o6.q,o7.q,o8.q,o9.q,.now (by rw [hE];exact put_eq (by have hz:=hsz.o;omega)),o11.q,o12.q,o13.q,o14.q,o15.q,o16.q,o17.q,o18.q,hK⟩
  ·have g:=o8 (az hm 8 (by kernel_rfl));have e1:=o10 (az hm 10 (by kernel_rfl));rcases bfe E with hE|hE
   ·rw [hE] at g;refine lQ (b:=true) (c:=false) rfl rfl rfl g (by decide) ?_;exact ⟨hFR.put (by decide) _,o0.q,o1.q,o2.q,o3.q,o4.q,o5.q,o6.q,o7.q,o8.q,o9.q,o10.q,.now (by rw [hE];exact put_eq (by have hz:=hsz.o;omega)),o12.q,o13.q,o14.q,o15.q,o16.q,o17.q,o18.q,hK⟩
   ·rw [hE] at g e1;simp only [cond_true] at e1;refine jM (b:=true) rfl rfl rfl g (fun KK hK2 => ?_);go_simp;refine st (Xa k _) ?_;rw [hBB];go_simp;exact hK2 (A.put (some 17) (.bool B)) _ ⟨hFR.put (by decide) _,o0.q,o1.q,o2.q,o3.q,o4.q,o5.q,o6.q,o7.q,o8.q,o9.q,o10.q,.now (by rw [hE];exact put_eq (by have hz:=hsz.o;omega)),o12.q,o13.q,o14.q,o15.q,o16.q,o17.q,o18.q,hK⟩
  ·have e1:=o8 (az hm 8 (by kernel_rfl));have e2:=o11 (az hm 11 (by kernel_rfl));rcases bfe E with hE|hE
   ·rw [hE] at e1 e2;simp only [cond_false] at e2;refine wpOp_step rfl (fun KK hK2 => ?_);go_simp;exact hK2 (A.put (some 18) (.bool false)) _ ⟨hFR.put (by decide) _,o0.q,o1.q,o2.q,o3.q,o4.q,o5.q,o6.q,o7.q,o8.q,o9.q,o10.q,o11.q,.now (by rw [hE];exact put_eq (by have hz:=hsz.o;omega)),o13.q,o14.q,o15.q,o16.q,o17.q,o18.q,hK⟩
   ·rw [hE] at e1 e2;simp only [cond_true] at e2;refine wpOp_step rfl (fun KK hK2 => ?_);go_simp;exact hK2 (A.put (some 18) (.bool B)) _ ⟨hFR.put (by decide) _,o0.q,o1.q,o2.q,o3.q,o4.q,o5.q,o6.q,o7.q,o8.q,o9.q,o10.q,o11.q,.now (by rw [hE];exact put_eq (by have hz:=hsz.o;omega)),o13.q,o14.q,o15.q,o16.q,o17.q,o18.q,hK⟩
  ·have e1:=o12 (az hm 12 (by kernel_rfl));refine wpOp_step rfl (fun KK hK2 => ?_);go_simp;exact hK2 (A.put (some 19) (.bool (E&&B))) _ ⟨hFR.put (by decide) _,o0.q,o1.q,o2.q,o3.q,o4.q,o5.q,o6.q,o7.q,o8.q,o9.q,o10.q,o11.q,o12.q,.now (put_eq (by have hz:=hsz.o;omega)),o14.q,o15.q,o16.q,o17.q,o18.q,hK⟩
  ·have g:=o13 (az hm 13 (by kernel_rfl));rcases bfe (E&&B) with hE|hE
   ·rw [hE] at g;refine lQ (b:=true) (c:=false) rfl rfl rfl g (by decide) ?_;exact ⟨hFR.put (by decide) _,o0.q,o1.q,o2.q,o3.q,o4.q,o5.q,o6.q,o7.q,o8.q,o9.q,o10.q,o11.q,o12.q,o13.q,.now (by rw [hE];exact put_eq (by have hz:=hsz.o;omega)),o15.q,o16.q,o17.q,o18.q,hK⟩
   ·rw [hE] at g;refine jM (b:=true) rfl rfl rfl g (fun KK hK2 => ?_);go_simp;exact hK2 (A.put (some 20) (.pointer (some (aac w.heap.size 2)))) _ ⟨hFR.put (by decide) _,o0.q,o1.q,o2.q,o3.q,o4.q,o5.q,o6.q,o7.q,o8.q,o9.q,o10.q,o11.q,o12.q,o13.q,.now (by rw [hE];exact put_eq (by have hz:=hsz.o;omega)),o15.q,o16.q,o17.q,o18.q,hK⟩
  ·have g:=o13 (az hm 13 (by kernel_rfl));have e1:=o14 (az hm 14 (by kernel_rfl));rcases bfe (E&&B) with hE|hE
   ·rw [hE] at g;refine lQ (b:=true) (c:=false) rfl rfl rfl g (by decide) ?_;exact ⟨hFR.put (by decide) _,o0.q,o1.q,o2.q,o3.q,o4.q,o5.q,o6.q,o7.q,o8.q,o9.q,o10.q,o11.q,o12.q,o13.q,o14.q,.now (by rw [hE];exact put_eq (by have hz:=hsz.o;omega)),o16.q,o17.q,o18.q,hK⟩
   ·rw [hE] at g e1;simp only [cond_true] at e1;have BL:=B1.o.ae hK;have x0:=BL.all;clear BL;refine jM (b:=true) rfl rfl rfl g (fun KK hK2 => ?_);go_simp;exact hK2 (A.put (some 21) (iv e)) _ ⟨hFR.put (by decide) _,o0.q,o1.q,o2.q,o3.q,o4.q,o5.q,o6.q,o7.q,o8.q,o9.q,o10.q,o11.q,o12.q,o13.q,o14.q,.now (by rw [hE];exact put_eq (by have hz:=hsz.o;omega)),o16.q,o17.q,o18.q,hK⟩
  ·have g:=o13 (az hm 13 (by kernel_rfl));have e1:=o15 (az hm 15 (by kernel_rfl));rcases bfe (E&&B) with hE|hE
   ·rw [hE] at g;refine lQ (b:=true) (c:=false) rfl rfl rfl g (by decide) ?_;exact ⟨hFR.put (by decide) _,o0.q,o1.q,o2.q,o3.q,o4.q,o5.q,o6.q,o7.q,o8.q,o9.q,o10.q,o11.q,o12.q,o13.q,o14.q,o15.q,.now (by rw [hE];exact put_eq (by have hz:=hsz.o;omega)),o17.q,o18.q,hK⟩
   ·rw [hE] at g e1;simp only [cond_true] at e1;refine jM (b:=true) rfl rfl rfl g (fun KK hK2 => ?_);go_simp;refine st (isWord e _ lo hi) ?_;rw [hCC];go_simp;exact hK2 (A.put (some 22) (.bool C)) _ ⟨hFR.put (by decide) _,o0.q,o1.q,o2.q,o3.q,o4.q,o5.q,o6.q,o7.q,o8.q,o9.q,o10.q,o11.q,o12.q,o13.q,o14.q,o15.q,.now (by rw [hE];exact put_eq (by have hz:=hsz.o;omega)),o17.q,o18.q,hK⟩
  ·have e1:=o13 (az hm 13 (by kernel_rfl));have e2:=o16 (az hm 16 (by kernel_rfl));rcases bfe (E&&B) with hE|hE
   ·rw [hE] at e1 e2;simp only [cond_false] at e2;refine wpOp_step rfl (fun KK hK2 => ?_);go_simp;exact hK2 (A.put (some 23) (.bool false)) _ ⟨hFR.put (by decide) _,o0.q,o1.q,o2.q,o3.q,o4.q,o5.q,o6.q,o7.q,o8.q,o9.q,o10.q,o11.q,o12.q,o13.q,o14.q,o15.q,o16.q,.now (by rw [hE];exact put_eq (by have hz:=hsz.o;omega)),o18.q,hK⟩
   ·rw [hE] at e1 e2;simp only [cond_true] at e2;refine wpOp_step rfl (fun KK hK2 => ?_);go_simp;exact hK2 (A.put (some 23) (.bool C)) _ ⟨hFR.put (by decide) _,o0.q,o1.q,o2.q,o3.q,o4.q,o5.q,o6.q,o7.q,o8.q,o9.q,o10.q,o11.q,o12.q,o13.q,o14.q,o15.q,o16.q,.now (by rw [hE];exact put_eq (by have hz:=hsz.o;omega)),o18.q,hK⟩
  ·have e1:=o17 (az hm 17 (by kernel_rfl));refine wpOp_step rfl (fun KK hK2 => ?_);go_simp;exact hK2 (A.put (some 2) (.bool ((E&&B)&&C))) _ ⟨hFR.put (by decide) _,o0.q,o1.q,o2.q,o3.q,o4.q,o5.q,o6.q,o7.q,o8.q,o9.q,o10.q,o11.q,o12.q,o13.q,o14.q,o15.q,o16.q,o17.q,.now (put_eq (by have hz:=hsz.o;omega)),hK⟩
  ·simp at hi1
   omega
theorem modes {m:Int} (h:bI m=true):m=0∨m=1∨m=2∨m=3∨m=4∨m=5∨m=6∨m=7:=by
 simp [bI,within] at h;omega
theorem zY (m k e k' e':Int) (w:World):(binOp .eql 46 (.agg #[iv m,iv k',iv e']) (.agg #[iv m,iv k,iv e])).run prog w=.ok (.bool ((k'==k)&&(e'==e))) w:=by
 go_simp;by_cases h1:k'=k<;>by_cases h2:e'=e<;>simp [h1,h2]
theorem ku (w:World) (m k e:Int) (wfm:(Lit.int .i64 m).wf=true) (wfk:(Lit.int .i64 k).wf=true) (wfe:(Lit.int .i64 e).wf=true) :
  Calls prog 117 #[.agg #[iv m,iv k,iv e]] w fun r w'=>r=.returned (.bool (iL m k e))∧Kept 0 0 w w':=by
 obtain ⟨lo,hi⟩:=wfB wfe;cases h:bI m
 ·have G:Hid (iL m k e=false):=aab (by unfold iL;rw [h];rfl);have K0:=aab (kept_alloc w (.cells #[iv m,iv k,iv e] 46));go_enter func117,ntmps117;go_wp2_with fail;refine (Dc m k e _ h).mono ?_;rintro r w1 ⟨rfl,k1⟩;have K1:=aab (K0.o.trans k1);clear k1;go_wp2_with fail;go_quiet (fail);go_wp2_with fail;go_ret;exact ⟨rB (by rw [G.o]),au K1.o _⟩
 ·rcases modes h with rfl|rfl|rfl|rfl|rfl|rfl|rfl|rfl
  ·have q:=oQ 0 k e w 228 339 (.agg #[iv k]) _ _ lo hi (fun w=>AZ k e w) (fun w=>WE _ w) (fun w=>Je k e w) fn0 (fun w=>zY 0 k e k 0 w)
   have G:(((k:Int)==k)&&((0:Int)==e)&&(within k 0 3&&aJ e))=iL 0 k e:=by
    unfold iL;rw [show bI 0=true from by decide,show decide ((0:Int)<6)=true from by decide,show jL 0=false from by decide,Bool.eq_iff_iff];simp;grind
   rw [G] at q;exact q
  ·have q:=oQ 1 k e w 229 340 (.agg #[iv k]) _ _ lo hi (fun w=>AY k e w) (fun w=>WB _ w) (fun w=>Jd k e w) fn1 (fun w=>zY 1 k e k 0 w)
   have G:(((k:Int)==k)&&((0:Int)==e)&&(within k 0 3&&aJ e))=iL 1 k e:=by
    unfold iL;rw [show bI 1=true from by decide,show decide ((1:Int)<6)=true from by decide,show jL 1=false from by decide,Bool.eq_iff_iff];simp;grind
   rw [G] at q;exact q
  ·have q:=oQ 2 k e w 230 341 (.agg #[iv k]) _ _ lo hi (fun w=>AX k e w) (fun w=>Wy _ w) (fun w=>Jc k e w) fn2 (fun w=>zY 2 k e k 0 w)
   have G:(((k:Int)==k)&&((0:Int)==e)&&(within k 0 3&&aJ e))=iL 2 k e:=by
    unfold iL;rw [show bI 2=true from by decide,show decide ((2:Int)<6)=true from by decide,show jL 2=false from by decide,Bool.eq_iff_iff];simp;grind
   rw [G] at q;exact q
  ·have q:=oQ 3 k e w 231 342 (.agg #[iv k]) _ _ lo hi (fun w=>AV k e w) (fun w=>Wx _ w) (fun w=>Jb k e w) fn3 (fun w=>zY 3 k e k 0 w)
   have G:(((k:Int)==k)&&((0:Int)==e)&&(within k 0 3&&aJ e))=iL 3 k e:=by
    unfold iL;rw [show bI 3=true from by decide,show decide ((3:Int)<6)=true from by decide,show jL 3=false from by decide,Bool.eq_iff_iff];simp;grind
   rw [G] at q;exact q
  ·have q:=oQ 4 k e w 232 343 (.agg #[iv k]) _ _ lo hi (fun w=>AU k e w) (fun w=>Wv _ w) (fun w=>Ja k e w) fn4 (fun w=>zY 4 k e k 0 w)
   have G:(((k:Int)==k)&&((0:Int)==e)&&(within k 0 3&&aJ e))=iL 4 k e:=by
    unfold iL;rw [show bI 4=true from by decide,show decide ((4:Int)<6)=true from by decide,show jL 4=false from by decide,Bool.eq_iff_iff];simp;grind
   rw [G] at q;exact q
  ·have q:=oQ 5 k e w 234 344 (.agg #[iv k,iv e]) _ _ lo hi (fun w=>AQ k e w) (fun w=>Wu _ w) (fun w=>IZ k e w) fn5 (fun w=>zY 5 k e k e w)
   have G:(((k:Int)==k)&&((e:Int)==e)&&(within k 0 3&&aJ e))=iL 5 k e:=by
    unfold iL;rw [show bI 5=true from by decide,show decide ((5:Int)<6)=true from by decide,show jL 5=true from by decide,Bool.eq_iff_iff];simp;skip
   rw [G] at q;exact q
  ·have q:=oQ 6 k e w 236 345 (.agg #[iv e]) _ _ lo hi (fun w=>AP k e w) (fun w=>Ws _ w) (fun w=>IY k e w) fn6 (fun w=>zY 6 k e 0 e w)
   have G:(((0:Int)==k)&&((e:Int)==e)&&(within k 0 3&&aJ e))=iL 6 k e:=by
    unfold iL;rw [show bI 6=true from by decide,show decide ((6:Int)<6)=false from by decide,show jL 6=true from by decide,Bool.eq_iff_iff];simp;grind
   rw [G] at q;exact q
  ·have q:=oQ 7 k e w 237 346 (.agg #[iv e]) _ _ lo hi (fun w=>AO k e w) (fun w=>Wq _ w) (fun w=>IX k e w) fn7 (fun w=>zY 7 k e 0 e w)
   have G:(((0:Int)==k)&&((e:Int)==e)&&(within k 0 3&&aJ e))=iL 7 k e:=by
    unfold iL;rw [show bI 7=true from by decide,show decide ((7:Int)<6)=false from by decide,show jL 7=true from by decide,Bool.eq_iff_iff];simp;grind
   rw [G] at q;exact q
theorem yg (w:World) (m:Int) (wfm:(Lit.int .i64 m).wf=true) :
  Calls prog 183 #[iv m] w fun r w'=>r=.returned (.tuple #[.bool (bI m&&jL m),.bool (bI m)])∧Kept 0 0 w w':=by
 cases h:bI m
 ·go_enter func183,ntmps183;go_wp2_with (first|(go_at_call 168;refine (Dc m 0 0 _ h).mono ?_;rintro r w1 ⟨rfl,k1⟩));go_quiet (fail);go_wp2_with fail;go_ret2;exact ⟨by simp,au k1 _⟩
 ·rcases modes h with rfl|rfl|rfl|rfl|rfl|rfl|rfl|rfl
  ·go_enter func183,ntmps183;go_wp2_with (first|(go_at_call 168;refine (AZ 0 0 _).mono ?_;rintro r w1 ⟨rfl,k1⟩));go_quiet (first|(go_at_call 234;exact Calls.quiet_of_same (PH _ _))|fail);go_wp2_with fail;go_ret2;exact ⟨rfl,au k1 _⟩
  ·go_enter func183,ntmps183;go_wp2_with (first|(go_at_call 168;refine (AY 0 0 _).mono ?_;rintro r w1 ⟨rfl,k1⟩));go_quiet (first|(go_at_call 234;exact Calls.quiet_of_same (PG _ _))|fail);go_wp2_with fail;go_ret2;exact ⟨rfl,au k1 _⟩
  ·go_enter func183,ntmps183;go_wp2_with (first|(go_at_call 168;refine (AX 0 0 _).mono ?_;rintro r w1 ⟨rfl,k1⟩));go_quiet (first|(go_at_call 234;exact Calls.quiet_of_same (PE _ _))|fail);go_wp2_with fail;go_ret2;exact ⟨rfl,au k1 _⟩
  ·go_enter func183,ntmps183;go_wp2_with (first|(go_at_call 168;refine (AV 0 0 _).mono ?_;rintro r w1 ⟨rfl,k1⟩));go_quiet (first|(go_at_call 234;exact Calls.quiet_of_same (PD _ _))|fail);go_wp2_with fail;go_ret2;exact ⟨rfl,au k1 _⟩
  ·go_enter func183,ntmps183;go_wp2_with (first|(go_at_call 168;refine (AU 0 0 _).mono ?_;rintro r w1 ⟨rfl,k1⟩));go_quiet (first|(go_at_call 234;exact Calls.quiet_of_same (Pz _ _))|fail);go_wp2_with fail;go_ret2;exact ⟨rfl,au k1 _⟩
  ·go_enter func183,ntmps183;go_wp2_with (first|(go_at_call 168;refine (AQ 0 0 _).mono ?_;rintro r w1 ⟨rfl,k1⟩));go_quiet (first|(go_at_call 234;exact Calls.quiet_of_same (Py _ _))|fail);go_wp2_with fail;go_ret2;exact ⟨rfl,au k1 _⟩
  ·go_enter func183,ntmps183;go_wp2_with (first|(go_at_call 168;refine (AP 0 0 _).mono ?_;rintro r w1 ⟨rfl,k1⟩));go_quiet (first|(go_at_call 234;exact Calls.quiet_of_same (Px _ _))|fail);go_wp2_with fail;go_ret2;exact ⟨rfl,au k1 _⟩
  ·go_enter func183,ntmps183;go_wp2_with (first|(go_at_call 168;refine (AO 0 0 _).mono ?_;rintro r w1 ⟨rfl,k1⟩));go_quiet (first|(go_at_call 234;exact Calls.quiet_of_same (Pv _ _))|fail);go_wp2_with fail;go_ret2;exact ⟨rfl,au k1 _⟩
theorem Xb (m:Int) (w:World):Calls prog 221 #[iv m] w fun e w'=>e=.returned (.bool (jZ m))∧w'=w:=by
 by_cases h0:2<=m
 ·by_cases h1:m<=6
  ·go_enter func221,ntmps221;go_wp2;go_ret;exact ⟨rB (by simp [jZ,within,h0,h1]),rfl⟩
  ·go_enter func221,ntmps221;go_wp2;go_ret;exact ⟨rB (by simp [jZ,within,h0];omega),rfl⟩
 ·go_enter func221,ntmps221;go_wp2;go_ret;exact ⟨rB (by simp [jZ,within];omega),rfl⟩
theorem Ei (m:Int) (w:World):Calls prog 171 #[iv m] w fun e w'=>e=.returned (.bool ((m==0)||jZ m))∧w'=w:=by
 cases h0:(m==0)
 ·go_enter func171,ntmps171;go_wp2_with (go_at_call 221;refine st (Xb _ _) ?_);go_ret;exact ⟨rB (by simp),rfl⟩
 ·go_enter func171,ntmps171;go_wp2;go_ret;exact ⟨rB (by simp),rfl⟩
theorem DU (m:Int) (w:World):Calls prog 172 #[iv m] w fun e w'=>e=.returned (.bool (fD m))∧w'=w:=by
 unfold fD
 cases h0:(m==2)<;>cases h1:(m==5)<;>cases h2:(m==6)<;>(
  go_enter func172,ntmps172;go_wp2;go_ret
  exact ⟨rB (by simp),rfl⟩)
theorem Wi (v:Int):okv 1 v=within v 0 255:=by
 unfold okv within Pl.top;rw [Bool.eq_iff_iff];simp;omega
theorem Pn (v:Int) (w:World) (lo : -9223372036854775808<=v) (hi:v<=9223372036854775807) :
  Calls prog 170 #[iv v] w fun e w'=>e=.returned (.bool (within v 0 255))∧w'=w:=by
 go_enter func170,ntmps170;go_wp2_with (go_at_call 120;refine st (bU _ _ _ lo hi) ?_;rw [Wi]);go_ret;exact ⟨rfl,rfl⟩
def Pl.lng (m:Int):Bool:=bI m&&jL m
theorem xZ (w:World) (op z r m k e s:Int) (wfm:(Lit.int .i64 m).wf=true):Calls prog 133 #[.agg (inA op z r m k e s)] w fun r' w'=>r'=.returned (.bool (lng m))∧Kept 0 0 w w':=by
 have K0:=aab (kept_alloc w (.cells (inA op z r m k e s) 48));go_enter func133,ntmps133;go_wp2_with (go_at_call 183;refine (yg _ m wfm).mono ?_;rintro e' w2 ⟨rfl,k2⟩);go_ret;exact ⟨rfl,K0.o.trans k2⟩
theorem lengthOf (w:World) (op z r m k e s:Int) (wfm:(Lit.int .i64 m).wf=true):Calls prog 80 #[.agg (inA op z r m k e s)] w fun r' w'=>r'=.returned (iv (if lng m=true then 2 else 1))∧Kept 0 0 w w':=by
 have K0:=aab (kept_alloc w (.cells (inA op z r m k e s) 48));cases h:lng m
 ·go_enter func80,ntmps80;go_wp2_with (go_at_call 133;refine (xZ _ op z r m k e s wfm).mono ?_;rintro e' w2 ⟨rfl,k2⟩;rw [h]);go_ret;exact ⟨rfl,K0.o.trans k2⟩
 ·go_enter func80,ntmps80;go_wp2_with (go_at_call 133;refine (xZ _ op z r m k e s wfm).mono ?_;rintro e' w2 ⟨rfl,k2⟩;rw [h]);go_ret;exact ⟨rfl,K0.o.trans k2⟩
theorem tV (w:World) (op z r m k e s:Int):Calls prog 222 #[.agg (inA op z r m k e s)] w fun r' w'=>r'=.returned (.bool ((r==0)&&ji m e))∧Kept 0 0 w w':=by
 have K0:=aab (kept_alloc w (.cells (inA op z r m k e s) 48));unfold ji
 cases h0:(r==0)<;>cases h1:(m==7)<;>cases h2:decide (e<=1023)<;>(
  go_enter func222,ntmps222;go_wp2;go_ret
  exact ⟨rB (by simp),K0.o⟩)
theorem zU (w:World) (op z r m k e s:Int) (wfe:(Lit.int .i64 e).wf=true):Calls prog 118 #[.agg (inA op z r m k e s)] w fun r' w'=>r'=.returned (.bool (KL ⟨op,z,r,m,k,e,s⟩))∧Kept 0 0 w w':=by
 have K0:=aab (kept_alloc w (.cells (inA op z r m k e s) 48));obtain ⟨lo,hi⟩:=wfB wfe;unfold KL;simp only
 cases h0:(m != 7)<;>cases h1:(z != 1)<;>cases h2:within e 0 255<;>(
  go_enter func118,ntmps118;go_wp2_with (go_at_call 170;refine st (Pn _ _ lo hi) ?_;rw [h2]);go_ret
  exact ⟨rB (by simp at h0 h1;simp [h0,h1]),K0.o⟩)
end Go.Proofs.YtgikibaajanjiaaGreatDoor
