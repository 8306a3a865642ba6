/- Part 23 of what the last text leans on. -/
import Derived.Test.YtkkmnnhaailkcaaGreatDoorJA22
import Derived.Test.YtkkmnnhaailkcaaGreatDoorJA12
import Derived.Test.YtkkmnnhaailkcaaGreatDoorJA5
import Derived.Test.YtkkmnnhaailkcaaGreatDoorJA1
import Derived.RegionTactic
import Derived.BigQuiet
import Derived.Deep.QuietTactic
set_option maxRecDepth 100000
set_option maxHeartbeats 16000000
namespace Go.Proofs.YtkkmnnhaailkcaaGreatDoor
open Go.RowKit Go.Proofs.Tryz
set_option linter.unusedVariables false
theorem nT (w:World) (lo b g:Nat) (c:Pl.Mc) (h:Bool) (z k:Int) (hC:CAt w lo b g c h) (hz:z=1∨z=2) (k0:0≤k) (k3:k≤3) :
  Calls prog 194 #[.pointer (some ⟨b,0,none⟩),iv z,iv k] w fun e w'=>e=.returned (iv (c.low z k))∧Kept 0 0 w w':=by
 refine (V8 w lo b g c h z k hC hz k0 k3).mono ?_
 rintro e w' ⟨rfl,n,rfl⟩
 exact ⟨rfl,au (Kept.refl _ _ _) _⟩
theorem QD {w W W':World} {lo hi l h:Nat} (k:Kept lo hi w W) (m:Kept l h W W') (hg:w.heap.size≤l):Kept lo hi w W':=
 ⟨m.os.trans k.os,m.tape.trans k.tape,m.output.trans k.output,Nat.le_trans k.size m.size,fun i hi hn=>(m.block i (Nat.lt_of_lt_of_le hi k.size) (by omega)).trans (k.block i hi hn)⟩
theorem kZ (m k e:Int):∃(T:TypeId) (U:Value),Ah m k e=.iface T U:=by
 unfold Ah;repeat' split
 all_goals exact ⟨_,_,rfl⟩
theorem rQ (w:World) (lo b g:Nat) (c:Pl.Mc) (h:Bool) (x:Pl.In) (hC:CAt w lo b g c h) (G:Pl.GM c) (B:Pl.InB x) :
  Calls prog 166 #[.pointer (some ⟨b,0,none⟩),.agg (inX x)] w fun e w'=>e=.returned (.agg #[Ah x.m x.k x.e,iv x.z,iv (c.readA x.z x.m x.k x.e)])∧CAt w' lo b g (c.slot x.z x.m x.k x.e) h∧Kept b (b+1) w w':=by
 obtain ⟨l0,l1,l2,l3,l4⟩:=hC.lt
 have HB:=hide B
 have HG:=hide G.g
 have K0:=hide (ah (kept_alloc w (.cells (inX x) 109)) (.cells #[.nilIface,iv 0,iv 0] 176))
 have C0:=hide ((hC.alloc (.cells (inX x) 109)).alloc (.cells #[.nilIface,iv 0,iv 0] 176))
 have I0:=hide ((Blk.new w (inX x) 109).alloc (.cells #[.nilIface,iv 0,iv 0] 176))
 have R0:=Blk.new (w.alloc (.cells (inX x) 109)) #[.nilIface,iv 0,iv 0] 176
 simp only [World.size_alloc] at R0
 replace R0:=hide R0
 obtain ⟨X,hX⟩:∃X:World,(w.alloc (.cells (inX x) 109)).alloc (.cells #[.nilIface,iv 0,iv 0] 176)=X:=⟨_,rfl⟩
 rw [hX] at K0 C0 I0 R0
 obtain ⟨T,U,hV⟩:=kZ x.m x.k x.e
 have HV:=hide hV
 obtain ⟨A,hA⟩:∃A,A=c.readA x.z x.m x.k x.e:=⟨_,rfl⟩
 have HA:=hide hA
 rw [hV,←hA]
 clear hC G B hV hA
 have p:=I0.o.all
 go_enter func166,ntmps166
 go_wp2_with (go_at_call 200;refine (QS x.m x.k x.e _ HB.o.m0 HB.o.m1).mono ?_;rintro e9 W1 ⟨rfl,k1⟩;rw [HV.o];have C1:=hide (C0.o.any k1);have I1:=hide (I0.o.af k1);have R1:=hide (R0.o.af k1);have K1:=hide (K0.o.trans k1);clear k1)
 clear hX p
 have p:=I1.o.cell (i:=1) rfl
 go_region_held3 (fun w'=>w'.cell? ⟨w.heap.size,1,none⟩=some (iv x.z)) (first|with_reducible exact I2.o.cell (i:=1) rfl|with_reducible exact I1.o.cell (i:=1) rfl|exact (show Blk _ _ _ _ from I1.o).cell (i:=1) rfl)
  (first|(go_at_call 201;rw [←HV.o];refine (Pq _ lo b g c h x.z x.m x.k x.e C1.o.drew HG.o HB.o.z HB.o.m0 HB.o.m1 HB.o.k0 HB.o.k1 HB.o.e0 HB.o.e1).mono ?_;rintro e9 W2 ⟨rfl,hc2,kd⟩;rw [←HA.o];try rw [HV.o];have k2:=bW kd;have C2:=hide hc2;have I2:=hide (I1.o.kept k2 (by omega));have R2:=hide (R1.o.kept k2 (by omega));have K2:=hide (K1.o.any.trans k2);clear kd k2 hc2))
 clear p
 have p2:=I2.o.all
 have r2:=R2.o.all
 have rf2:=R2.o.fz
 go_wp2_with fail
 have K3:=((ak W2 (w.heap.size+1) 0 (.iface T U)).one 1 (iv x.z)).one 2 (iv A)
 refine bodyPost_ret (v:=.agg #[.iface T U,iv x.z,iv A]) ?_ rfl ⟨rfl,C2.o.kept K3 (by omega) (by omega),QD K2.o K3 (by omega)⟩
 rw [aj rfl];go_simp
theorem TE (w:World) (lo b g:Nat) (c:Pl.Mc) (h:Bool) (z a k:Int) (hC:CAt w lo b g c h) (hz:z=1∨z=2) (k0:0≤k) (k3:k≤3) :
  Calls prog 192 #[.pointer (some ⟨b,0,none⟩),.agg #[.iface 202 (.agg #[iv k]),iv z,iv a]] w fun e w'=>e=.returned (.tuple #[iv (c.low z k),.agg ftZ])∧CAt w' lo b g c h∧Kept 0 0 w w':=by
 have t0:=UA
 obtain ⟨l0,l1,l2,l3,l4⟩:=hC.lt
 have K0:=hide (ah (kept_alloc w (.cells #[.iface 202 (.agg #[iv k]),iv z,iv a] 176)) (.cells ftZ 49))
 have C0:=hide ((hC.alloc (.cells #[.iface 202 (.agg #[iv k]),iv z,iv a] 176)).alloc (.cells ftZ 49))
 have I0:=hide ((Blk.new w #[.iface 202 (.agg #[iv k]),iv z,iv a] 176).alloc (.cells ftZ 49))
 have R0:=Blk.new (w.alloc (.cells #[.iface 202 (.agg #[iv k]),iv z,iv a] 176)) ftZ 49
 simp only [World.size_alloc] at R0
 replace R0:=hide R0
 obtain ⟨X,hX⟩:∃X:World,(w.alloc (.cells #[.iface 202 (.agg #[iv k]),iv z,iv a] 176)).alloc (.cells ftZ 49)=X:=⟨_,rfl⟩
 rw [hX] at K0 C0 I0 R0
 have p:=I0.o.all
 have r:=R0.o.all
 have rf:=R0.o.fz
 have sX:w.heap.size+1<X.heap.size:=R0.o.lt
 have K1:=hide (ah K0.o (.cells #[iv k] 202))
 have C1:=hide (C0.o.alloc (.cells #[iv k] 202))
 have R1:=hide (R0.o.alloc (.cells #[iv k] 202))
 have I1:=hide (I0.o.alloc (.cells #[iv k] 202))
 have N1:=hide (Blk.new X #[iv k] 202)
 obtain ⟨W1,hW⟩:∃W:World,X.alloc (.cells #[iv k] 202)=W:=⟨_,rfl⟩
 rw [hW] at K1 C1 R1 I1 N1
 have p1:=I1.o.all
 have r1:=R1.o.all
 have rf1:=R1.o.fz
 have n1:=N1.o.all
 have nf1:=N1.o.fz
 have s1:X.heap.size<W1.heap.size:=N1.o.lt
 clear hC
 go_enter func192,ntmps192
 go_wp2_with (go_at_call 194;refine (nT _ lo b g c h z k C1.o hz k0 k3).mono ?_;rintro e9 W2 ⟨rfl,k1⟩;have C2:=hide (C1.o.any k1);have R2:=hide (R1.o.af k1);have K2:=hide (K1.o.trans k1);have r2:=R2.o.all;have rf2:=R2.o.fz;clear k1)
 have K3:=(((((ak W2 (w.heap.size+1) 0 (iv 0)).one 1 (iv 0)).one 2 (iv 0)).one 3 (iv 0)).one 4 (.bool false))
 refine bodyPost_ret (v:=.tuple #[iv (c.low z k),.agg ftZ]) ?_ rfl ⟨rfl,C2.o.kept K3 (by omega) (by omega),dD K2.o K3 (by omega)⟩
 rw [gV rfl];go_simp
theorem TD (w:World) (lo b g:Nat) (c:Pl.Mc) (h:Bool) (z a k:Int) (hC:CAt w lo b g c h) (k0:0≤k) (k3:k≤3) :
  Calls prog 192 #[.pointer (some ⟨b,0,none⟩),.agg #[.iface 203 (.agg #[iv k]),iv z,iv a]] w fun e w'=>e=.returned (.tuple #[iv (el c.r.ys k.toNat),.agg ftZ])∧CAt w' lo b g c h∧Kept 0 0 w w':=by
 obtain ⟨n,rfl⟩:∃n:Nat,k=(n:Int):=⟨k.toNat,by omega⟩
 have hn:n<4:=by omega
 have t0:=WX
 have t1:=WW
 obtain ⟨l0,l1,l2,l3,l4⟩:=hC.lt
 have K0:=hide (ah (kept_alloc w (.cells #[.iface 203 (.agg #[iv (n:Int)]),iv z,iv a] 176)) (.cells ftZ 49))
 have C0:=hide ((hC.alloc (.cells #[.iface 203 (.agg #[iv (n:Int)]),iv z,iv a] 176)).alloc (.cells ftZ 49))
 have I0:=hide ((Blk.new w #[.iface 203 (.agg #[iv (n:Int)]),iv z,iv a] 176).alloc (.cells ftZ 49))
 have R0:=Blk.new (w.alloc (.cells #[.iface 203 (.agg #[iv (n:Int)]),iv z,iv a] 176)) ftZ 49
 simp only [World.size_alloc] at R0
 replace R0:=hide R0
 obtain ⟨X,hX⟩:∃X:World,(w.alloc (.cells #[.iface 203 (.agg #[iv (n:Int)]),iv z,iv a] 176)).alloc (.cells ftZ 49)=X:=⟨_,rfl⟩
 rw [hX] at K0 C0 I0 R0
 have p:=I0.o.all
 have r:=R0.o.all
 have rf:=R0.o.fz
 have sX:w.heap.size+1<X.heap.size:=R0.o.lt
 have K1:=hide (ah K0.o (.cells #[iv (n:Int)] 203))
 have C1:=hide (C0.o.alloc (.cells #[iv (n:Int)] 203))
 have R1:=hide (R0.o.alloc (.cells #[iv (n:Int)] 203))
 have I1:=hide (I0.o.alloc (.cells #[iv (n:Int)] 203))
 have N1:=hide (Blk.new X #[iv (n:Int)] 203)
 obtain ⟨W1,hW⟩:∃W:World,X.alloc (.cells #[iv (n:Int)] 203)=W:=⟨_,rfl⟩
 rw [hW] at K1 C1 R1 I1 N1
 have p1:=I1.o.all
 have r1:=R1.o.all
 have rf1:=R1.o.fz
 have n1:=N1.o.all
 have nf1:=N1.o.fz
 have s1:X.heap.size<W1.heap.size:=N1.o.lt
 clear hC
 have i0:(0:Int)≤(n:Int):=by omega
 have i1:(n:Int)<4:=by omega
 go_enter func192,ntmps192
 go_wp2_with fail
 clear hW hX p r rf
 have q:=C1.o.cY hn
 go_region
 go_wp2_with fail
 have K2:=ae (((((ak W1 (w.heap.size+1) 0 (iv 0)).one 1 (iv 0)).one 2 (iv 0)).one 3 (iv 0)).one 4 (.bool false))
 refine bodyPost_ret (v:=.tuple #[iv (el c.r.ys n),.agg ftZ]) ?_ rfl ⟨rfl,C1.o.kept K2 (by omega) (by omega),dD K1.o K2 (by omega)⟩
 rw [gV rfl];go_simp
theorem TC (w:World) (lo b g:Nat) (c:Pl.Mc) (h:Bool) (z a e:Int) (hC:CAt w lo b g c h) :
  Calls prog 192 #[.pointer (some ⟨b,0,none⟩),.agg #[.iface 205 (.agg #[iv e]),iv z,iv a]] w fun e' w'=>e'=.returned (.tuple #[iv e,.agg ftZ])∧CAt w' lo b g c h∧Kept 0 0 w w':=by
 have t0:=WL
 have t1:=WJ
 have t7:=WI
 obtain ⟨l0,l1,l2,l3,l4⟩:=hC.lt
 have K0:=hide (ah (kept_alloc w (.cells #[.iface 205 (.agg #[iv e]),iv z,iv a] 176)) (.cells ftZ 49))
 have C0:=hide ((hC.alloc (.cells #[.iface 205 (.agg #[iv e]),iv z,iv a] 176)).alloc (.cells ftZ 49))
 have I0:=hide ((Blk.new w #[.iface 205 (.agg #[iv e]),iv z,iv a] 176).alloc (.cells ftZ 49))
 have R0:=Blk.new (w.alloc (.cells #[.iface 205 (.agg #[iv e]),iv z,iv a] 176)) ftZ 49
 simp only [World.size_alloc] at R0
 replace R0:=hide R0
 obtain ⟨X,hX⟩:∃X:World,(w.alloc (.cells #[.iface 205 (.agg #[iv e]),iv z,iv a] 176)).alloc (.cells ftZ 49)=X:=⟨_,rfl⟩
 rw [hX] at K0 C0 I0 R0
 have p:=I0.o.all
 have r:=R0.o.all
 have rf:=R0.o.fz
 have sX:w.heap.size+1<X.heap.size:=R0.o.lt
 have K1:=hide (ah K0.o (.cells #[iv e] 205))
 have C1:=hide (C0.o.alloc (.cells #[iv e] 205))
 have R1:=hide (R0.o.alloc (.cells #[iv e] 205))
 have I1:=hide (I0.o.alloc (.cells #[iv e] 205))
 have N1:=hide (Blk.new X #[iv e] 205)
 obtain ⟨W1,hW⟩:∃W:World,X.alloc (.cells #[iv e] 205)=W:=⟨_,rfl⟩
 rw [hW] at K1 C1 R1 I1 N1
 have p1:=I1.o.all
 have r1:=R1.o.all
 have rf1:=R1.o.fz
 have n1:=N1.o.all
 have nf1:=N1.o.fz
 have s1:X.heap.size<W1.heap.size:=N1.o.lt
 clear hC
 go_enter func192,ntmps192
 go_wp2_with fail
 have K2:=(((((ak W1 (w.heap.size+1) 0 (iv 0)).one 1 (iv 0)).one 2 (iv 0)).one 3 (iv 0)).one 4 (.bool false))
 refine bodyPost_ret (v:=.tuple #[iv e,.agg ftZ]) ?_ rfl ⟨rfl,C1.o.kept K2 (by omega) (by omega),dD K1.o K2 (by omega)⟩
 rw [gV rfl];go_simp
theorem vW (w:World) (lo b g:Nat) (c:Pl.Mc) (h:Bool) (z a:Int) (T:TypeId) (U:Value) (t0:∀w,(Instr.typeAssert (.iface T U) 174 202 true).run prog w=.ok (.tuple #[.agg #[iv 0],.bool false]) w) (t1:∀w,(Instr.typeAssert (.iface T U) 174 203 true).run prog w=.ok (.tuple #[.agg #[iv 0],.bool false]) w) (t7:∀w,(Instr.typeAssert (.iface T U) 174 205 true).run prog w=.ok (.tuple #[.agg #[iv 0],.bool false]) w) (hC:CAt w lo b g c h) (G:Pl.GM c) (hf:c.f=Pl.aH) (hz:z=1∨z=2) (a0:0≤a) (a1:a≤65535) :
  Calls prog 192 #[.pointer (some ⟨b,0,none⟩),.agg #[.iface T U,iv z,iv a]] w fun e w'=>∃g',e=.returned (.tuple #[iv (c.jE 1 z a 0),.agg (ftC (c.acc 1 z a 0).f)])∧CAt w' lo b g' (c.acc 1 z a 0) h∧Since w b (b+1) g w' g':=by
 have HA:=hide (Pl.yK hz a0 a1)
 have HG:=hide G
 obtain ⟨F,hF⟩:∃F,F=Pl.Mc.fA Pl.aH 1 z a:=⟨_,rfl⟩
 have HF:=hide hF
 rw [show (c.acc 1 z a 0).f=F by show Pl.Mc.fA c.f 1 z a=F;rw [hf,hF]]
 obtain ⟨V,hV⟩:∃V,V=c.jE 1 z a 0:=⟨_,rfl⟩
 have HV:Hid (V=if (1:Int)=2 then 0 else Pl.lv c.bx 1 z a 0):=hide hV
 rw [←hV]
 obtain ⟨l0,l1,l2,l3,l4⟩:=hC.lt
 have K0:=hide (ah (kept_alloc w (.cells #[.iface T U,iv z,iv a] 176)) (.cells ftZ 49))
 have C0:=hide ((hC.alloc (.cells #[.iface T U,iv z,iv a] 176)).alloc (.cells ftZ 49))
 have I0:=hide ((Blk.new w #[.iface T U,iv z,iv a] 176).alloc (.cells ftZ 49))
 have R0:=Blk.new (w.alloc (.cells #[.iface T U,iv z,iv a] 176)) ftZ 49
 simp only [World.size_alloc] at R0
 replace R0:=hide R0
 obtain ⟨X,hX⟩:∃X:World,(w.alloc (.cells #[.iface T U,iv z,iv a] 176)).alloc (.cells ftZ 49)=X:=⟨_,rfl⟩
 rw [hX] at K0 C0 I0 R0
 have p:=I0.o.all
 have r:=R0.o.all
 have rf:=R0.o.fz
 have sX:w.heap.size+1<X.heap.size:=R0.o.lt
 clear hC G hF hV
 go_enter func192,ntmps192
 go_wp2_with (go_at_call 96;refine (lL _ lo b g c h 1 z a 0 C0.o HG.o HA.o V HV F HF).mono ?_;rintro e9 W1 ⟨g',rfl,hc1,hs1⟩;unfold ftC;have S1:=hide (((Since.refl w b (b+1) g).any K0.o).trans hs1);have C1:=hide hc1;have R1:=hide (hs1.blk R0.o (by omega) (by omega));have n1:=hs1.ne (b:=w.heap.size+1) R0.o.lt (by omega);have r1:=R1.o.all;have rf1:=R1.o.fz;clear hc1 hs1)
 have K2:=(((((ak W1 (w.heap.size+1) 0 (iv F.v)).one 1 (iv F.pc)).one 2 (iv F.ad)).one 3 (iv F.wo)).one 4 (.bool F.wr))
 refine bodyPost_ret (v:=.tuple #[iv V,.agg (ftA F)]) ?_ rfl ⟨g',rfl,C1.o.kept K2 (by omega) (by omega),S1.o.mine K2 (by omega)⟩
 rw [gV rfl];go_simp
theorem Pn (w:World) (lo b g:Nat) (c:Pl.Mc) (h:Bool) (z a k v:Int) (hC:CAt w lo b g c h) (hg:Pl.Good c.r) (hz:z=1∨z=2) (k0:0≤k) (k3:k≤3) (hv:Pl.okv z v=true) :
  Calls prog 197 #[.pointer (some ⟨b,0,none⟩),.agg #[.iface 202 (.agg #[iv k]),iv z,iv a],iv v] w fun e w'=>e=.returned (.agg ftZ)∧CAt w' lo b g (c.put z k v) h∧Kept b (b+1) w w':=by
 have t0:=UA
 have HGd:=hide hg
 have HV:=hide hv
 obtain ⟨l0,l1,l2,l3,l4⟩:=hC.lt
 have K0:=hide (ah (kept_alloc w (.cells #[.iface 202 (.agg #[iv k]),iv z,iv a] 176)) (.cells ftZ 49))
 have C0:=hide ((hC.alloc (.cells #[.iface 202 (.agg #[iv k]),iv z,iv a] 176)).alloc (.cells ftZ 49))
 have I0:=hide ((Blk.new w #[.iface 202 (.agg #[iv k]),iv z,iv a] 176).alloc (.cells ftZ 49))
 have R0:=Blk.new (w.alloc (.cells #[.iface 202 (.agg #[iv k]),iv z,iv a] 176)) ftZ 49
 simp only [World.size_alloc] at R0
 replace R0:=hide R0
 obtain ⟨X,hX⟩:∃X:World,(w.alloc (.cells #[.iface 202 (.agg #[iv k]),iv z,iv a] 176)).alloc (.cells ftZ 49)=X:=⟨_,rfl⟩
 rw [hX] at K0 C0 I0 R0
 have p:=I0.o.all
 have r:=R0.o.all
 have rf:=R0.o.fz
 have sX:w.heap.size+1<X.heap.size:=R0.o.lt
 have K1:=hide (ah K0.o (.cells #[iv k] 202))
 have C1:=hide (C0.o.alloc (.cells #[iv k] 202))
 have R1:=hide (R0.o.alloc (.cells #[iv k] 202))
 have I1:=hide (I0.o.alloc (.cells #[iv k] 202))
 have N1:=hide (Blk.new X #[iv k] 202)
 obtain ⟨W1,hW⟩:∃W:World,X.alloc (.cells #[iv k] 202)=W:=⟨_,rfl⟩
 rw [hW] at K1 C1 R1 I1 N1
 have p1:=I1.o.all
 have r1:=R1.o.all
 have rf1:=R1.o.fz
 have n1:=N1.o.all
 have nf1:=N1.o.fz
 have s1:X.heap.size<W1.heap.size:=N1.o.lt
 clear hC hg hv
 go_enter func197,ntmps197
 go_wp2_with fail
 clear hW hX p r rf p1 r1 rf1 n1
 have n1:=N1.o.cell (i:=0) rfl
 have i1:=I1.o.cell (i:=1) rfl
 go_region_held3 (fun w'=>w'.cell? ⟨X.heap.size,0,none⟩=some (iv k)∧w'.cell? ⟨w.heap.size,1,none⟩=some (iv z)) (first|with_reducible exact ⟨N2.o.cell (i:=0) rfl,I2.o.cell (i:=1) rfl⟩|exact ⟨(show Blk _ _ _ _ from N1.o).cell (i:=0) rfl,(show Blk _ _ _ _ from I1.o).cell (i:=1) rfl⟩)
  (first|(go_at_call 195;refine (Lp _ lo b g c h z k v C1.o.drew HGd.o k0 k3 hz HV.o).mono ?_;rintro e9 W2 ⟨rfl,hc2,kd⟩;have k2:=bW kd;have C2:=hide hc2;have N2:=hide (N1.o.kept k2 (by omega));have I2:=hide (I1.o.kept k2 (by omega));have R2:=hide (R1.o.kept k2 (by omega));have K2:=hide (K1.o.any.trans k2);clear hc2 kd k2))
 have r2:=R2.o.all
 have rf2:=R2.o.fz
 go_wp2_with fail
 have K3:=(((((ak W2 (w.heap.size+1) 0 (iv 0)).one 1 (iv 0)).one 2 (iv 0)).one 3 (iv 0)).one 4 (.bool false))
 refine bodyPost_ret (v:=.agg ftZ) ?_ rfl ⟨rfl,C2.o.kept K3 (by omega) (by omega),QD K2.o K3 (by omega)⟩
 rw [aj rfl];go_simp
theorem rP (w:World) (lo b g:Nat) (c:Pl.Mc) (h:Bool) (z a v:Int) (T:TypeId) (U:Value) (t0:∀w,(Instr.typeAssert (.iface T U) 174 202 true).run prog w=.ok (.tuple #[.agg #[iv 0],.bool false]) w) (hC:CAt w lo b g c h) (G:Pl.GM c) (hf:c.f=Pl.aH) (ha:Pl.fQ 2 z a v=true) :
  Calls prog 197 #[.pointer (some ⟨b,0,none⟩),.agg #[.iface T U,iv z,iv a],iv v] w fun e w'=>∃g',e=.returned (.agg (ftC (c.acc 2 z a v).f))∧CAt w' lo b g' (c.acc 2 z a v) h∧Since w b (b+1) g w' g':=by
 have HA:=hide ha
 have HG:=hide G
 obtain ⟨F,hF⟩:∃F,F=Pl.Mc.fA Pl.aH 2 z a:=⟨_,rfl⟩
 have HF:=hide hF
 rw [show (c.acc 2 z a v).f=F by show Pl.Mc.fA c.f 2 z a=F;rw [hf,hF]]
 obtain ⟨l0,l1,l2,l3,l4⟩:=hC.lt
 have K0:=hide (ah (kept_alloc w (.cells #[.iface T U,iv z,iv a] 176)) (.cells ftZ 49))
 have C0:=hide ((hC.alloc (.cells #[.iface T U,iv z,iv a] 176)).alloc (.cells ftZ 49))
 have I0:=hide ((Blk.new w #[.iface T U,iv z,iv a] 176).alloc (.cells ftZ 49))
 have R0:=Blk.new (w.alloc (.cells #[.iface T U,iv z,iv a] 176)) ftZ 49
 simp only [World.size_alloc] at R0
 replace R0:=hide R0
 obtain ⟨X,hX⟩:∃X:World,(w.alloc (.cells #[.iface T U,iv z,iv a] 176)).alloc (.cells ftZ 49)=X:=⟨_,rfl⟩
 rw [hX] at K0 C0 I0 R0
 have p:=I0.o.all
 have r:=R0.o.all
 have rf:=R0.o.fz
 have sX:w.heap.size+1<X.heap.size:=R0.o.lt
 have K1:=hide (ah K0.o (.cells #[iv 0] 202))
 have C1:=hide (C0.o.alloc (.cells #[iv 0] 202))
 have R1:=hide (R0.o.alloc (.cells #[iv 0] 202))
 have I1:=hide (I0.o.alloc (.cells #[iv 0] 202))
 have N1:=hide (Blk.new X #[iv 0] 202)
 obtain ⟨W1,hW⟩:∃W:World,X.alloc (.cells #[iv 0] 202)=W:=⟨_,rfl⟩
 rw [hW] at K1 C1 R1 I1 N1
 have p1:=I1.o.all
 have r1:=R1.o.all
 have rf1:=R1.o.fz
 have n1:=N1.o.all
 have nf1:=N1.o.fz
 have s1:X.heap.size<W1.heap.size:=N1.o.lt
 have C1b:=hide (C1.o.other X.heap.size 0 (iv 0) (by omega) (by omega))
 have K1b:=hide (dD K1.o (ak W1 X.heap.size 0 (iv 0)) (by omega))
 have R1b:=hide (R1.o.other X.heap.size 0 (iv 0) (by omega))
 clear hC G hF ha
 go_enter func197,ntmps197
 go_wp2_with (go_at_call 96;refine (lL _ lo b g c h 2 z a v C1b.o HG.o HA.o 0 (hide rfl) F HF).mono ?_;rintro e9 W2 ⟨g',rfl,hc2,hs2⟩;unfold ftC;have S2:=hide ((((Since.refl w b (b+1) g).any K1b.o).trans hs2).alloc (.cells (ftA F) 49));have C2:=hide (hc2.alloc (.cells (ftA F) 49));have R2:=hide ((hs2.blk R1b.o (by omega) (by omega)).alloc (.cells (ftA F) 49));have n2:=hs2.ne (b:=w.heap.size+1) R1b.o.lt (by omega);have r2:=R2.o.all;have rf2:=R2.o.fz;clear hc2 hs2)
 have K3:=(((((ak (W2.alloc (.cells (ftA F) 49)) (w.heap.size+1) 0 (iv F.v)).one 1 (iv F.pc)).one 2 (iv F.ad)).one 3 (iv F.wo)).one 4 (.bool F.wr))
 refine bodyPost_ret (v:=.agg (ftA F)) ?_ rfl ⟨g',rfl,C2.o.kept K3 (by omega) (by omega),S2.o.mine K3 (by omega)⟩
 rw [aj rfl];go_simp
theorem yG (w:World) (lo b g:Nat) (c:Pl.Mc) (h:Bool) (z m k e:Int) (hC:CAt w lo b g (c.slot z m k e) h) (G:Pl.GM c) (hf:c.f=Pl.aH) (hz:z=1∨z=2) (m0:0≤m) (m7:m≤7) (k0:0≤k) (k3:k≤3) (x0:0≤e) (x1:e≤65535) :
  Calls prog 192 #[.pointer (some ⟨b,0,none⟩),.agg #[Ah m k e,iv z,iv (c.readA z m k e)]] w fun r w'=>∃g',r=.returned (.tuple #[iv (c.aY z m k e),.agg (ftC (c.read z m k e).f)])∧CAt w' lo b g' (c.read z m k e) h∧Since w b (b+1) g w' g':=by
 have hm:m=0∨m=1∨m=2∨m=3∨m=4∨m=5∨m=6∨m=7:=by omega
 have q:=Pl.iM G.g (z:=z) (m:=m) k0 k3 x0 x1
 rcases hm with rfl|rfl|rfl|rfl|rfl|rfl|rfl|rfl
 ·refine (TE w lo b g c h z _ k hC hz k0 k3).mono ?_
  rintro e9 w9 ⟨rfl,hc,hk⟩
  exact ⟨g,by rw [show (c.read z 0 k e).f=Pl.aH from hf];rfl,hc,(Since.refl _ _ _ _).any hk⟩
 ·refine (TD w lo b g c h z _ k hC k0 k3).mono ?_
  rintro e9 w9 ⟨rfl,hc,hk⟩
  exact ⟨g,by rw [show (c.read z 1 k e).f=Pl.aH from hf];rfl,hc,(Since.refl _ _ _ _).any hk⟩
 ·exact vW w lo b g (c.plc z 2 k e) h z _ _ _ (Uz _) (WV _) (WU _) hC (G.plc k0 k3) hf hz q.1 q.2
 ·exact vW w lo b g (c.plc z 3 k e) h z _ _ _ (Uy _) (WT _) (WS _) hC (G.plc k0 k3) hf hz q.1 q.2
 ·exact vW w lo b g (c.plc z 4 k e) h z _ _ _ (Ux _) (WR _) (WQ _) hC (G.plc k0 k3) hf hz q.1 q.2
 ·exact vW w lo b g (c.plc z 5 k e) h z _ _ _ (Uw _) (WP _) (WO _) hC (G.plc k0 k3) hf hz q.1 q.2
 ·exact vW w lo b g (c.plc z 6 k e) h z _ _ _ (Uu _) (WN _) (WM _) hC (G.plc k0 k3) hf hz q.1 q.2
 ·refine (TC w lo b g c h z _ e hC).mono ?_
  rintro e9 w9 ⟨rfl,hc,hk⟩
  exact ⟨g,by rw [show (c.read z 7 k e).f=Pl.aH from hf];rfl,hc,(Since.refl _ _ _ _).any hk⟩
theorem uI (w:World) (lo b g:Nat) (c:Pl.Mc) (h:Bool) (z m k e a v:Int) (hC:CAt w lo b g c h) (G:Pl.GM c) (hf:c.f=Pl.aH) (hz:z=1∨z=2) (hm:m=0∨(2≤m∧m≤6)) (k0:0≤k) (k3:k≤3) (a0:0≤a) (a1:a≤65535) (hv:Pl.okv z v=true) :
  Calls prog 197 #[.pointer (some ⟨b,0,none⟩),.agg #[Ah m k e,iv z,iv a],iv v] w fun r w'=>∃g',r=.returned (.agg (ftC (c.write z m k a v).f))∧CAt w' lo b g' (c.write z m k a v) h∧Since w b (b+1) g w' g':=by
 have ha:Pl.fQ 2 z a v=true:=by
  have h1:Pl.addr a=true:=by simp [Pl.addr];omega
  unfold Pl.fQ;rw [hv,h1];rfl
 have hm:m=0∨m=2∨m=3∨m=4∨m=5∨m=6:=by omega
 rcases hm with rfl|rfl|rfl|rfl|rfl|rfl
 ·refine (Pn w lo b g c h z a k v hC G.g hz k0 k3 hv).mono ?_
  rintro e9 w9 ⟨rfl,hc,hk⟩
  exact ⟨g,by rw [show (c.write z 0 k a v).f=Pl.aH from hf];rfl,hc,(Since.refl _ _ _ _).ai hk (Nat.le_refl _) (Nat.le_refl _)⟩
 ·exact rP w lo b g c h z a v _ _ (Uz _) hC G hf ha
 ·exact rP w lo b g c h z a v _ _ (Uy _) hC G hf ha
 ·exact rP w lo b g c h z a v _ _ (Ux _) hC G hf ha
 ·exact rP w lo b g c h z a v _ _ (Uw _) hC G hf ha
 ·exact rP w lo b g c h z a v _ _ (Uu _) hC G hf ha
theorem V5 (w:World) (lo b g:Nat) (c:Pl.Mc) (h:Bool) (v:Int) (hC:CAt w lo b g c h) (G:Pl.GM c) (hf:c.f=Pl.aH) (v0:0≤v) (v1:v≤65535) :
  Calls prog 95 #[.pointer (some ⟨b,0,none⟩),iv v] w fun e w'=>∃g',e=.returned (.agg (ftC (c.push v).f))∧CAt w' lo b g' (c.push v) h∧Since w b (b+1) g w' g':=by
 have HA:=hide (Pl.wu (c:=c) v0 v1)
 obtain ⟨F,hF⟩:∃F,F=Pl.Mc.fA Pl.aH 2 2 c.spA:=⟨_,rfl⟩
 have HF:=hide hF
 have EF:Hid ((c.acc 2 2 c.spA v).f=F):=hide (by show Pl.Mc.fA c.f 2 2 c.spA=F;rw [hf,hF])
 obtain ⟨A,hA⟩:∃A,A=c.spA:=⟨_,rfl⟩
 rw [←hA] at HA HF EF
 have eA:(el c.r.ys 3-2)%65536=A:=hA.symm
 have HPA:Hid (c.spA=A):=hide hA.symm
 clear hA hF
 obtain ⟨l0,l1,l2,l3,l4⟩:=hC.lt
 obtain ⟨a30,a31⟩:=G.g.aw 3 (by omega)
 have h4:=hide G.g.a4
 have HG:=hide G
 have C0:=hide (hC.alloc (.cells ftZ 49))
 have R0:=hide (Blk.new w ftZ 49)
 have K0:=hide (kept_alloc w (.cells ftZ 49))
 obtain ⟨X,hX⟩:∃X:World,w.alloc (.cells ftZ 49)=X:=⟨_,rfl⟩
 rw [hX] at C0 R0 K0
 have x7:X.cell? ⟨b,7,none⟩=some (iv (el c.r.ys 3)):=C0.o.cY (k:=3) (by omega)
 clear hC G
 cases hv:(F.v != 0)
 ·have E:Hid (c.push v=(c.acc 2 2 A v).fM 3 A):=hide (by
   unfold Pl.Mc.push;rw [HPA.o]
   rw [show (c.acc 2 2 A v).fine=true by unfold Pl.Mc.fine;rw [EF.o];simpa using hv];rfl)
  go_enter func95,ntmps95
  go_wp2_with (first|(go_at_call 117;refine (gY _ _).mono ?_;rintro e w' ⟨rfl,rfl⟩;rw [eA])|(go_at_call 96;refine (lL _ lo b g c h 2 2 A v C0.o HG.o HA.o 0 (hide rfl) F HF).mono ?_;rintro e w3 ⟨g',rfl,hc3,hs3⟩;unfold ftC;have S3:=hide (((Since.refl w b (b+1) g).any K0.o).trans hs3);have R3:=hide ((hs3.blk R0.o (by omega) (by omega)).alloc (.cells (ftA F) 49));have C3:=hide (hc3.alloc (.cells (ftA F) 49));have L3:=hide (Blk.new w3 (ftA F) 49);have z3:=hs3.size;have n3:=hs3.ne (b:=w.heap.size) R0.o.lt (by omega);clear hc3 hs3)|(go_at_call 45;refine (gu F _).mono ?_;rintro e w4 ⟨rfl,k4⟩;have S4:=hide (S3.o.any ((kept_alloc w3 (.cells (ftA F) 49)).trans k4));have R4:=hide (R3.o.af k4);have C4:=hide (C3.o.any k4);have L4:=hide (L3.o.af k4);have y7:w4.cell? ⟨b,7,none⟩=some (iv (el c.r.ys 3)):=C4.o.cY (k:=3) (by omega);have yf:=C4.o.fz;have q:=L4.o.all;have r:=(show Blk w4 w.heap.size ftZ 49 from R4.o).all;have rf:=R4.o.fz;clear k4;rw [hv]))
  have K5:=(((((ak w4 w.heap.size 0 (iv F.v)).one 1 (iv F.pc)).one 2 (iv F.ad)).one 3 (iv F.wo)).one 4 (.bool F.wr))
  have C5:=C4.o.uV h4.o (k:=3) (by omega) A
  have S5:=S4.o.set b 7 (iv A) (.inl (by omega))
  have K5:=(((((ak (w4.setCell ⟨b,7,none⟩ (iv A)) w.heap.size 0 (iv F.v)).one 1 (iv F.pc)).one 2 (iv F.ad)).one 3 (iv F.wo)).one 4 (.bool F.wr))
  refine bodyPost_ret (v:=.agg (ftA F)) ?_ rfl ⟨g',?_,?_,S5.mine K5 (by omega)⟩
  ·rw [aj rfl];go_simp
  ·rw [E.o,show ((c.acc 2 2 A v).fM 3 A).f=F from EF.o];rfl
  ·rw [E.o];exact C5.kept K5 (by omega) (by omega)
 ·have E:Hid (c.push v=c.acc 2 2 A v):=hide (by
   unfold Pl.Mc.push;rw [HPA.o]
   rw [show (c.acc 2 2 A v).fine=false by unfold Pl.Mc.fine;rw [EF.o];simpa using hv];rfl)
  go_enter func95,ntmps95
  go_wp2_with (first|(go_at_call 117;refine (gY _ _).mono ?_;rintro e w' ⟨rfl,rfl⟩;rw [eA])|(go_at_call 96;refine (lL _ lo b g c h 2 2 A v C0.o HG.o HA.o 0 (hide rfl) F HF).mono ?_;rintro e w3 ⟨g',rfl,hc3,hs3⟩;unfold ftC;have S3:=hide (((Since.refl w b (b+1) g).any K0.o).trans hs3);have R3:=hide ((hs3.blk R0.o (by omega) (by omega)).alloc (.cells (ftA F) 49));have C3:=hide (hc3.alloc (.cells (ftA F) 49));have L3:=hide (Blk.new w3 (ftA F) 49);have z3:=hs3.size;have n3:=hs3.ne (b:=w.heap.size) R0.o.lt (by omega);clear hc3 hs3)|(go_at_call 45;refine (gu F _).mono ?_;rintro e w4 ⟨rfl,k4⟩;have S4:=hide (S3.o.any ((kept_alloc w3 (.cells (ftA F) 49)).trans k4));have R4:=hide (R3.o.af k4);have C4:=hide (C3.o.any k4);have L4:=hide (L3.o.af k4);have y7:w4.cell? ⟨b,7,none⟩=some (iv (el c.r.ys 3)):=C4.o.cY (k:=3) (by omega);have yf:=C4.o.fz;have q:=L4.o.all;have r:=(show Blk w4 w.heap.size ftZ 49 from R4.o).all;have rf:=R4.o.fz;clear k4;rw [hv]))
  have K5:=(((((ak w4 w.heap.size 0 (iv F.v)).one 1 (iv F.pc)).one 2 (iv F.ad)).one 3 (iv F.wo)).one 4 (.bool F.wr))
  refine bodyPost_ret (v:=.agg (ftA F)) ?_ rfl ⟨g',?_,?_,S4.o.mine K5 (by omega)⟩
  ·rw [aj rfl];go_simp
  ·rw [E.o,EF.o];rfl
  ·rw [E.o];exact C4.o.kept K5 (by omega) (by omega)
theorem TF (w:World) (lo b g:Nat) (c:Pl.Mc) (h:Bool) (hC:CAt w lo b g c h) (G:Pl.GM c) (hf:c.f=Pl.aH) :
  Calls prog 233 #[.pointer (some ⟨b,0,none⟩)] w fun e w'=>∃g',e=.returned (.tuple #[iv c.dV,.agg (ftC c.pop.f)])∧CAt w' lo b g' (c.pop) h∧Since w b (b+1) g w' g':=by
 obtain ⟨l0,l1,l2,l3,l4⟩:=hC.lt
 obtain ⟨a30,a31⟩:=G.g.aw 3 (by omega)
 have h4:=hide G.g.a4
 have HG:=hide G
 have C0:=hide (hC.alloc (.cells ftZ 49))
 have R0:=hide (Blk.new w ftZ 49)
 have K0:=hide (kept_alloc w (.cells ftZ 49))
 obtain ⟨X,hX⟩:∃X:World,w.alloc (.cells ftZ 49)=X:=⟨_,rfl⟩
 rw [hX] at C0 R0 K0
 have x7:X.cell? ⟨b,7,none⟩=some (iv (el c.r.ys 3)):=C0.o.cY (k:=3) (by omega)
 clear hC G
 have HA:=hide (Pl.iJ (k:=1) (.inl rfl) a30 a31)
 obtain ⟨F,hF⟩:∃F,F=Pl.Mc.fA Pl.aH 1 2 (el c.r.ys 3):=⟨_,rfl⟩
 have HF:=hide hF
 have EF:Hid ((c.acc 1 2 (el c.r.ys 3) 0).f=F):=hide (by show Pl.Mc.fA c.f 1 2 _=F;rw [hf,hF])
 obtain ⟨V,hV⟩:∃V,V=c.dV:=⟨_,rfl⟩
 have HV:Hid (V=if (1:Int)=2 then 0 else Pl.lv c.bx 1 2 (el c.r.ys 3) 0):=hide hV
 rw [←hV]
 clear hF hV
 cases hv:(F.v != 0)
 ·have E:Hid (c.pop=(c.acc 1 2 (el c.r.ys 3) 0).fM 3 ((el c.r.ys 3+2)%65536)):=hide (by
   unfold Pl.Mc.pop
   rw [show (c.acc 1 2 (el c.r.ys 3) 0).fine=true by unfold Pl.Mc.fine;rw [EF.o];simpa using hv];rfl)
  go_enter func233,ntmps233
  go_wp2_with (first|(go_at_call 96;refine (lL _ lo b g c h 1 2 (el c.r.ys 3) 0 C0.o HG.o HA.o V HV F HF).mono ?_;rintro e w3 ⟨g',rfl,hc3,hs3⟩;unfold ftC;have S3:=hide (((Since.refl w b (b+1) g).any K0.o).trans hs3);have R3:=hide ((hs3.blk R0.o (by omega) (by omega)).alloc (.cells (ftA F) 49));have C3:=hide (hc3.alloc (.cells (ftA F) 49));have L3:=hide (Blk.new w3 (ftA F) 49);have z3:=hs3.size;have n3:=hs3.ne (b:=w.heap.size) R0.o.lt (by omega);clear hc3 hs3)|(go_at_call 45;refine (gu F _).mono ?_;rintro e w4 ⟨rfl,k4⟩;have S4:=hide (S3.o.any ((kept_alloc w3 (.cells (ftA F) 49)).trans k4));have R4:=hide (R3.o.af k4);have C4:=hide (C3.o.any k4);have L4:=hide (L3.o.af k4);have y7:w4.cell? ⟨b,7,none⟩=some (iv (el c.r.ys 3)):=C4.o.cY (k:=3) (by omega);have yf:=C4.o.fz;have q:=L4.o.all;have r:=(show Blk w4 w.heap.size ftZ 49 from R4.o).all;have rf:=R4.o.fz;clear k4;rw [hv]))
  go_region_with (first|(go_at_call 117;refine (gY _ _).mono ?_;rintro e w' ⟨rfl,rfl⟩))
  go_wp2_with fail
  go_region
  go_wp2_with fail
  have C5:=C4.o.uV h4.o (k:=3) (by omega) ((el c.r.ys 3+2)%65536)
  have S5:=S4.o.set b 7 (iv ((el c.r.ys 3+2)%65536)) (.inl (by omega))
  have K5:=ae (ae ((((((ak (w4.setCell ⟨b,7,none⟩ (iv ((el c.r.ys 3+2)%65536))) w.heap.size 0 (iv F.v)).one 1 (iv F.pc)).one 2 (iv F.ad)).one 3 (iv F.wo)).one 4 (.bool F.wr))))
  refine bodyPost_ret (v:=.tuple #[iv V,.agg (ftA F)]) ?_ rfl ⟨g',?_,?_,S5.mine K5 (by omega)⟩
  ·rw [gV rfl];go_simp
  ·rw [E.o,show ((c.acc 1 2 (el c.r.ys 3) 0).fM 3 ((el c.r.ys 3+2)%65536)).f=F from EF.o];rfl
  ·rw [E.o];exact C5.kept K5 (by omega) (by omega)
 ·have E:Hid (c.pop=c.acc 1 2 (el c.r.ys 3) 0):=hide (by
   unfold Pl.Mc.pop
   rw [show (c.acc 1 2 (el c.r.ys 3) 0).fine=false by unfold Pl.Mc.fine;rw [EF.o];simpa using hv];rfl)
  go_enter func233,ntmps233
  go_wp2_with (first|(go_at_call 96;refine (lL _ lo b g c h 1 2 (el c.r.ys 3) 0 C0.o HG.o HA.o V HV F HF).mono ?_;rintro e w3 ⟨g',rfl,hc3,hs3⟩;unfold ftC;have S3:=hide (((Since.refl w b (b+1) g).any K0.o).trans hs3);have R3:=hide ((hs3.blk R0.o (by omega) (by omega)).alloc (.cells (ftA F) 49));have C3:=hide (hc3.alloc (.cells (ftA F) 49));have L3:=hide (Blk.new w3 (ftA F) 49);have z3:=hs3.size;have n3:=hs3.ne (b:=w.heap.size) R0.o.lt (by omega);clear hc3 hs3)|(go_at_call 45;refine (gu F _).mono ?_;rintro e w4 ⟨rfl,k4⟩;have S4:=hide (S3.o.any ((kept_alloc w3 (.cells (ftA F) 49)).trans k4));have R4:=hide (R3.o.af k4);have C4:=hide (C3.o.any k4);have L4:=hide (L3.o.af k4);have y7:w4.cell? ⟨b,7,none⟩=some (iv (el c.r.ys 3)):=C4.o.cY (k:=3) (by omega);have yf:=C4.o.fz;have q:=L4.o.all;have r:=(show Blk w4 w.heap.size ftZ 49 from R4.o).all;have rf:=R4.o.fz;clear k4;rw [hv]))
  go_region
  go_wp2_with fail
  have K5:=ae ((((((ak w4 w.heap.size 0 (iv F.v)).one 1 (iv F.pc)).one 2 (iv F.ad)).one 3 (iv F.wo)).one 4 (.bool F.wr)))
  refine bodyPost_ret (v:=.tuple #[iv V,.agg (ftA F)]) ?_ rfl ⟨g',?_,?_,S4.o.mine K5 (by omega)⟩
  ·rw [gV rfl];go_simp
  ·rw [E.o,EF.o];rfl
  ·rw [E.o];exact C4.o.kept K5 (by omega) (by omega)
end Go.Proofs.YtkkmnnhaailkcaaGreatDoor
namespace Go.Proofs.YtkkmnnhaailkcaaGreatDoor.Pl
set_option linter.unusedVariables false
def uX (a b:In):Bool:=(a.op==b.op)&&((a.z==b.z)&&((a.r==b.r)&&((a.m==b.m)&&((a.k==b.k)&&((a.e==b.e)&&(a.s==b.s))))))
def fits (x:In):Bool:=uX (decode (oK x%65536) x.e) x
def Ku (x:In):Bool := !(x.m==7)||(!(x.z==1)||within x.e 0 255)
theorem vT (w v:Int):(decode w v).e=bif jS (w/32%8) then v else 0:=by
 show (if fD w=2 then v else 0)=_
 unfold fD
 cases jS (w/32%8)<;>simp
theorem vN (x:In):fits x=true↔(0≤x.op∧x.op≤31)∧(1≤x.z∧x.z≤2)∧(0≤x.r∧x.r≤3)∧(0≤x.m∧x.m≤7)∧(0≤x.k∧x.k≤3)∧(0≤x.s∧x.s≤7)∧(jS x.m=false→x.e=0):=by
 obtain ⟨op,z,r,m,k,e,s⟩:=x
 unfold fits
 have hW:oK ⟨op,z,r,m,k,e,s⟩%65536=(op*2048+(z-1)*1024+r*256+m*32+k*8+s)%65536:=rfl
 generalize oK ⟨op,z,r,m,k,e,s⟩%65536=W at hW
 unfold uX
 rw [vT]
 simp only [decode,Bool.and_eq_true,beq_iff_eq]
 constructor
 ·rintro ⟨h1,h2,h3,h4,h5,h6,h7⟩
  refine ⟨⟨by omega,by omega⟩,⟨by omega,by omega⟩,⟨by omega,by omega⟩,⟨by omega,by omega⟩,⟨by omega,by omega⟩,⟨by omega,by omega⟩,fun q => ?_⟩
  rw [h4,q] at h6
  simpa using h6.symm
 ·rintro ⟨⟨a1,a2⟩,⟨b1,b2⟩,⟨c1,c2⟩,⟨d1,d2⟩,⟨e1,e2⟩,⟨f1,f2⟩,g⟩
  have hm:W/32%8=m:=by omega
  refine ⟨by omega,by omega,by omega,hm,by omega,?_,by omega⟩
  rw [hm]
  cases q:jS m
  ·rw [g q];rfl
  ·rfl
theorem ok_of_fits (x:In):dF x=(fits x&&(iT x.m x.k x.e&&(Ku x&&ax x))):=by
 cases hf:fits x
 ·cases hq:dF x
  ·rfl
  ·exfalso
   have h:=Qy hq
   have:fits x=true:=(vN x).2 ⟨by omega,by omega,by omega,by omega,by omega,by omega,h.2.2.2.2.2.2.2.2.2.2.2.2.2⟩
   rw [hf] at this;cases this
 ·obtain ⟨a,b,c,d,e,f,g⟩:=(vN x).1 hf
  obtain ⟨op,z,r,m,k,e',s⟩:=x
  simp only at a b c d e f g
  unfold dF inBase Ku lM
  simp only
  have w1:within r 0 3=true:=by simp [within];omega
  have w2:within s 0 7=true:=by simp [within];omega
  have w3:(decide (z=1)||decide (z=2))=true:=by simp;omega
  rw [w1,w2,w3]
  cases ho:iT m k e'
  ·simp
  ·have:0≤e':=by simp [iT,aS,within] at ho;omega
   have w4:(!((m==7)&&(z==1)&&decide (255<e')))=(!(m==7)||(!(z==1)||within e' 0 255)):=by
    rw [Bool.eq_iff_iff];simp [within];omega
   rw [w4]
   simp
end Go.Proofs.YtkkmnnhaailkcaaGreatDoor.Pl
namespace Go.Proofs.YtkkmnnhaailkcaaGreatDoor
open Go.RowKit Go.Proofs.Tryz
set_option linter.unusedVariables false
def GH (md:Region.Mode) (ops:Array Oper) (i k:Nat):Bool:=((ops[i]?).map fun o=>o.after.any fun e=>Region.binds md e&&e.on==k).getD false
theorem jL {md:Region.Mode} {ops:Array Oper} {l:Array Bool} {i:Nat} (h:i∈Region.ready md ops l):i<ops.size∧l.getD i true=false:=by
 unfold Region.ready at h
 rw [List.mem_filter,Bool.and_eq_true] at h
 refine ⟨List.mem_range.1 h.1,?_⟩
 have:=h.2.1
 revert this
 cases l.getD i true<;>simp
theorem FW {l:Array Bool} {k:Nat} (h:l.getD k false=true):l.getD k true=true:=by
 unfold Array.getD at *
 split
 ·rename_i hk;simpa [hk] using h
 ·rfl
theorem aA {md:Region.Mode} {ops:Array Oper} {l:Array Bool} {i:Nat} (h:i∈Region.ready md ops l) (k:Nat) (hk:GH md ops i k=true):l.getD k true=true:=by
 unfold Region.ready at h
 rw [List.mem_filter,Bool.and_eq_true] at h
 have h2:=h.2.2
 unfold GH at hk
 cases ho:ops[i]? with
 | none=>rw [ho] at hk;simp at hk
 | some o=>
  rw [ho] at hk h2
  simp only [Option.map_some,Option.getD_some] at hk h2
  rw [Array.any_eq_true'] at hk
  obtain ⟨e,he,hb⟩:=hk
  rw [Array.all_eq_true'] at h2
  have h3:=h2 e he
  rw [Bool.and_eq_true] at hb
  rw [hb.1] at h3
  have h4:e.on=k:=by simpa using hb.2
  rw [h4] at h3
  exact FW (by simpa using h3)
theorem filter_lt {xs:List Nat} {p q:Nat→Bool} (hpq:∀x,q x=true→p x=true) {i:Nat} (hi:i∈xs) (hp:p i=true) (hq:q i=false):(xs.filter q).length<(xs.filter p).length:=by
 induction xs with
 | nil=>cases hi
 | cons x t ih=>
  have hle:(t.filter q).length≤(t.filter p).length:=by
   clear ih hi
   induction t with
   | nil=>simp
   | cons y t ih=>
    cases h1:q y
    ·cases h2:p y<;>simp [h1,h2]<;>omega
    ·simp [h1,hpq y h1];exact ih
  rcases List.mem_cons.1 hi with rfl|hi
  ·simp [hp,hq];omega
  ·have:=ih hi
   cases h1:q x
   ·cases h2:p x<;>simp [h1,h2]<;>omega
   ·simp [h1,hpq x h1];exact this
theorem getD_set_ne {l:Array Bool} {i j:Nat} (h:j≠i):(l.setIfInBounds i true).getD j true=l.getD j true:=by
 simp only [Array.getD_eq_getD_getElem?]
 rw [Array.getElem?_setIfInBounds_ne (Ne.symm h)]
theorem gU {l:Array Bool} {i:Nat}:(l.setIfInBounds i true).getD i true=true:=by
 simp only [Array.getD_eq_getD_getElem?,Array.getElem?_setIfInBounds]
 split
 ·split<;>rfl
 ·rename_i h;exact absurd trivial h
theorem Ej {P:Program} {md:Region.Mode} {ops:Array Oper} {Q:Exit→Act→World→Prop} {I:Array Bool→Act→World→Prop}
  (hfin:∀l a w,l.size=ops.size→I l a w→Region.ready md ops l=[]→Q .normal a w)
  (hstep:∀l a w i,I l a w→i∈Region.ready md ops l→wpOp P ops Q i (I (l.setIfInBounds i true)) a w) :
  ∀(fuel:Nat) (l:Array Bool) (a:Act) (w:World),l.size=ops.size→((List.range ops.size).filter fun i => !l.getD i true).length≤fuel→I l a w→wpAny P md ops Q fuel l a w:=by
 intro fuel
 induction fuel with
 | zero=>
  intro l a w hz hn hI
  have h0:Region.ready md ops l=[]:=by
   cases hr:Region.ready md ops l with
   | nil=>rfl
   | cons i t=>
    exfalso
    have hi:i∈Region.ready md ops l:=by rw [hr];simp
    obtain ⟨h1,h2⟩:=jL hi
    have:i∈(List.range ops.size).filter fun i => !l.getD i true:=List.mem_filter.2 ⟨List.mem_range.2 h1,by rw [h2];rfl⟩
    have:=List.length_pos_of_mem this
    omega
  exact ⟨h0,hfin l a w hz hI h0⟩
 | succ n ih=>
  intro l a w hz hn hI
  refine ⟨fun h0=>hfin l a w hz hI h0,fun i hi => ?_⟩
  refine wpOp_mono (fun a' w' h'=>ih _ a' w' (by simp [hz]) ?_ h') (hstep l a w i hI hi)
  obtain ⟨h1,h2⟩:=jL hi
  have:=filter_lt (xs:=List.range ops.size) (p:=fun j => !l.getD j true) (q:=fun j => !(l.setIfInBounds i true).getD j true) (i:=i) (by
   intro x hx
   by_cases e:x=i
   ·subst e;rw [h2];rfl
   ·rw [getD_set_ne e] at hx;exact hx) (List.mem_range.2 h1) (by rw [h2];rfl) (by rw [gU];rfl)
  omega
def Si (md:Region.Mode) (ops:Array Oper):Bool:=(List.range ops.size).all fun i=>((ops[i]?).map fun o=>o.after.all fun e => !Region.binds md e||decide (e.on<i)).getD true
theorem AL {md:Region.Mode} {ops:Array Oper} {l:Array Bool} (hz:l.size=ops.size) (hB:Si md ops=true) (h0:Region.ready md ops l=[]):∀i,i<ops.size→l.getD i true=true:=by
 intro i
 induction i using Nat.strongRecOn with
 | ind i ih=>
  intro hi
  cases hl:l.getD i true
  ·exfalso
   have hm:i∈Region.ready md ops l:=by
    unfold Region.ready
    rw [List.mem_filter,Bool.and_eq_true]
    refine ⟨List.mem_range.2 hi,by rw [hl];rfl,?_⟩
    have hb:=List.all_eq_true.1 hB i (List.mem_range.2 hi)
    rw [Array.getElem?_eq_getElem hi] at hb ⊢
    simp only [Option.map_some,Option.getD_some] at hb ⊢
    rw [Array.all_eq_true'] at hb ⊢
    intro e he
    have h1:=hb e he
    rw [Bool.or_eq_true] at h1 ⊢
    rcases h1 with h1|h1
    ·exact .inl h1
    ·have h2:e.on<i:=by simpa using h1
     have h3:=ih e.on h2 (by omega)
     refine .inr ?_
     unfold Array.getD at h3 ⊢
     split
     ·rename_i hk;simpa [hk] using h3
     ·rename_i hk;omega
   rw [h0] at hm
   cases hm
  ·rfl
theorem wC {P:Program} {ops:Array Oper} {Q:Exit→Act→World→Prop} {id:Nat} {a:Act} {w:World} (I:Array Bool→Act→World→Prop) (hm:P.follows .mixedOrders=true) (hB:Si .any ops=true)
  (hstart:I (Array.replicate ops.size false) a w.drew)
  (hfin:∀l a w,I l a w→(∀i,i<ops.size→l.getD i true=true)→Q .normal a w)
  (hstep:∀l a w i,I l a w→i∈Region.ready .any ops l→wpOp P ops Q i (I (l.setIfInBounds i true)) a w) :
  (Code.region id ops true).wp P Q a w:=by
 refine wp_region_any hm (Ej (I:=I) (fun l a w hz h h0=>hfin l a w h (AL hz hB h0)) hstep _ _ _ _ (by simp) ?_ hstart)
 exact Nat.le_trans (List.length_filter_le _ _) (by simp)
def Once (l:Array Bool) (i:Nat) (p:Prop):Prop:=l.getD i true=true→p
theorem Once.past {l:Array Bool} {i j:Nat} {p q:Prop} (h:Once l j p) (hn:j≠i) (hp:p→q):Once (l.setIfInBounds i true) j q:=fun e=>hp (h (by rwa [getD_set_ne hn] at e))
theorem Once.now {l:Array Bool} {i j:Nat} {p:Prop} (h:p):Once (l.setIfInBounds i true) j p:=fun _=>h
theorem az {n i:Nat} {p:Prop} (hi:i<n):Once (Array.replicate n false) i p:=by
 intro e
 simp [Array.getD_eq_getD_getElem?,hi] at e
theorem mM {n i:Nat} (hi:i<n):(Array.replicate n false).getD i true=false:=by
 simp [Array.getD_eq_getD_getElem?,hi]
structure FR (SL:List Nat) (A0 A:Act):Prop where
 size:A.tmps.size=A0.tmps.size
 defers:A.defers=A0.defers
 o:∀k,k∉SL→A.tmps[k]? = A0.tmps[k]?
theorem FR.refl (SL:List Nat) (A:Act):FR SL A A:=⟨rfl,rfl,fun _ _=>rfl⟩
theorem AO {A:Act} {j k:Nat} {v:Value} (h:k≠j):(A.put (some j) v).tmps[k]? = A.tmps[k]? := by
 show (A.tmps.setIfInBounds j v)[k]? = _
 rw [Array.getElem?_setIfInBounds_ne (Ne.symm h)]
theorem put_eq {A:Act} {k:Nat} {v:Value} (h:k<A.tmps.size):(A.put (some k) v).tmps[k]? = some v:=by
 show (A.tmps.setIfInBounds k v)[k]? = _
 rw [Array.getElem?_setIfInBounds]
 simp [h]
theorem FR.put {SL:List Nat} {A0 A:Act} (h:FR SL A0 A) {k:Nat} (hk:k∈SL) (v:Value):FR SL A0 (A.put (some k) v):=by
 refine ⟨?_,h.defers,fun j hj => ?_⟩
 ·show (A.tmps.setIfInBounds k v).size=_
  rw [Array.size_setIfInBounds];exact h.size
 ·rw [AO (fun e=>hj (by rw [e];exact hk))];exact h.o j hj
theorem Qg {A B:Act} (hs:A.tmps.size=B.tmps.size) (hd:A.defers=B.defers) (h:∀k:Nat,A.tmps[k]? = B.tmps[k]?):A=B:=by
 cases A;cases B
 simp only at hs hd h
 subst hd
 congr 1
 exact Array.ext_getElem? h
theorem zV {A:Act}:∀(SL:List Nat) (B:Act),A.tmps.size=B.tmps.size→A.defers=B.defers→(∀k,k∉SL→A.tmps[k]? = B.tmps[k]?)→A=SL.foldl (fun a k=>a.put (some k) (A.tmps.getD k undef)) B
 | [],B,hs,hd,h=>Qg hs hd (fun k=>h k (by simp))
 | k :: t,B,hs,hd,h=>by
  refine zV t (B.put (some k) (A.tmps.getD k undef)) ?_ hd (fun j hj => ?_)
  ·show _=(B.tmps.setIfInBounds k _).size
   rw [Array.size_setIfInBounds];exact hs
  ·by_cases e:j=k
   ·subst e
    by_cases hb:j<B.tmps.size
    ·rw [put_eq hb]
     have:j<A.tmps.size:=by omega
     rw [Array.getElem?_eq_getElem this]
     simp [Array.getD_eq_getD_getElem?,this]
    ·show _=(B.tmps.setIfInBounds j _)[j]?
     rw [Array.getElem?_eq_none (by omega),Array.getElem?_eq_none (by rw [Array.size_setIfInBounds];omega)]
   ·rw [AO e]
    exact h j (by simp [e,hj])
theorem FR.chain {SL:List Nat} {A0 A:Act} (h:FR SL A0 A):A=SL.foldl (fun a k=>a.put (some k) (A.tmps.getD k undef)) A0:=zV SL A0 h.size h.defers h.o
theorem nP {A:Act} {k:Nat} {v:Value} (h:A.tmps[k]? = some v):A.tmps.getD k undef=v:=by
 rw [Array.getD_eq_getD_getElem?,h];rfl
theorem iE {P:Program} {ops:Array Oper} {Q:Exit→Act→World→Prop} {id:Nat} {a:Act} {w:World} (I:Act→Array Bool→Act→World→Prop) (hm:P.follows .mixedOrders=true) (hB:Si .any ops=true)
  (hstart:I a (Array.replicate ops.size false) a w.drew)
  (hfin:∀l A w,I a l A w→(∀i,i<ops.size→l.getD i true=true)→Q .normal A w)
  (hstep:∀l A w i,I a l A w→i∈Region.ready .any ops l→wpOp P ops Q i (I a (l.setIfInBounds i true)) A w) :
  (Code.region id ops true).wp P Q a w:=wC (I a) hm hB hstart hfin hstep
theorem Once.n {l:Array Bool} {i j:Nat} {p:Prop} (h:Once l j p) (h1:j≠i:=by decide):Once (l.setIfInBounds i true) j p:=h.past h1 id
theorem Once.q {l:Array Bool} {i j k d:Nat} {A:Act} {u:Value} {v:Option Value} (h:Once l j (A.tmps[k]? = v)) (h1:j≠i:=by decide) (h2:k≠d:=by decide):Once (l.setIfInBounds i true) j ((A.put (some d) u).tmps[k]? = v):=h.past h1 (fun e=>(AO h2).trans e)
theorem bfe (b:Bool):b=false∨b=true:=by cases b<;>simp
theorem jV {P:Program} {ops:Array Oper} {Q:Exit→Act→World→Prop} {i:Nat} {o:Oper} {K:Act→World→Prop} {a:Act} {w:World} (ho:ops[i]? = some o) {j s:Nat} {b:Bool} (hg:o.guard=some (j,b)) (hd:(ops[j]?).bind (·.dst)=some s) (hv:a.tmps[s]? = some (.bool b))
  (h:∀K':Act→World→Prop,(∀a w,K a w→K' a w)→Oper.wp P o a w K' Q):wpOp P ops Q i K a w:=by
 refine wpOp_step ho (fun K' hK => ?_)
 rw [if_pos]
 ·exact h K' hK
 ·unfold Region.wanted yielded
  rw [hg]
  simp only [hd,Option.bind_some,hv]
  simp
theorem lZ {P:Program} {ops:Array Oper} {Q:Exit→Act→World→Prop} {i:Nat} {o:Oper} {K:Act→World→Prop} {a:Act} {w:World} (ho:ops[i]? = some o) {j s:Nat} {b c:Bool} (hg:o.guard=some (j,b)) (hd:(ops[j]?).bind (·.dst)=some s) (hv:a.tmps[s]? = some (.bool c)) (hn:c≠b)
  (h:K (a.put o.dst undef) w):wpOp P ops Q i K a w:=by
 refine wpOp_step ho (fun K' hK => ?_)
 rw [if_neg]
 ·exact hK _ _ h
 ·unfold Region.wanted yielded
  rw [hg]
  simp only [hd,Option.bind_some,hv]
  simpa using hn
theorem pV (m k e:Int) (w:World) (T N:Nat) (v:Value) (R:Array Value) (E:Bool) (lo : -9223372036854775808≤e) (hi:e≤9223372036854775807)
  (hw:∀w:World,Calls prog 200 #[.agg #[iv m,iv k,iv e]] w fun r w'=>r=.returned (.iface T v)∧Kept 0 0 w w')
  (hme:∀w:World,(method 358 T v "loop.example/g00389/impl.operand").run prog w=.ok (N,v) w)
  (hc:∀w:World,Calls prog N #[v] w fun r w'=>r=.returned (.agg R)∧Kept 0 0 w w')
  (hfn:∀(a:Array Value) (w:World),(callFunc N a).run prog w=.ok (.enter N a) w)
  (he:∀w:World,(binOp .eql 107 (.agg R) (.agg #[iv m,iv k,iv e])).run prog w=.ok (.bool E) w) :
  Calls prog 188 #[.agg #[iv m,iv k,iv e]] w fun r w'=>r=.returned (.bool (E&&(Pl.within k 0 3&&Pl.aS e)))∧Kept 0 0 w w':=by
 have B0:=hide (Blk.new w #[iv m,iv k,iv e] 107)
 have K0:=hide (kept_alloc w (.cells #[iv m,iv k,iv e] 107))
 obtain ⟨B,hBB⟩:∃B,Pl.within k 0 3=B:=⟨_,rfl⟩
 obtain ⟨C,hCC⟩:∃C,Pl.aS e=C:=⟨_,rfl⟩
 go_enter func188,ntmps188
 go_wp2_with fail
 refine (hw _).mono ?_
 rintro r w1 ⟨rfl,k1⟩
 have B1:=hide (B0.o.af k1)
 have K1:=hide (K0.o.trans k1)
 clear k1 hw
 go_wp2_with fail
 refine iE (fun A0 l A W=>FR [6,7,8,9,10,11,12,13,14,15,16,17,18,19,20,21,22,23,2] A0 A∧Once l 0 (A.tmps[6]? = some (.iface T v))∧Once l 1 (A.tmps[7]? = some (.bool true))∧Once l 2 (A.tmps[8]? = some (.bool true))∧Once l 3 (A.tmps[9]? = some (.iface T v))∧Once l 4 (A.tmps[10]? = some (.agg R))∧Once l 5 (A.tmps[11]? = some (.agg #[iv m,iv k,iv e]))∧Once l 6 (A.tmps[12]? = some (.bool E))∧Once l 7 (A.tmps[13]? = some (.bool E))∧Once l 8 (A.tmps[14]? = some (.bool E))∧Once l 9 (A.tmps[15]? = some (bif E then .pointer (some ⟨w.heap.size,1,none⟩) else undef))∧Once l 10 (A.tmps[16]? = some (bif E then iv k else undef))∧Once l 11 (A.tmps[17]? = some (bif E then .bool B else undef))∧Once l 12 (A.tmps[18]? = some (.bool (E&&B)))∧Once l 13 (A.tmps[19]? = some (.bool (E&&B)))∧Once l 14 (A.tmps[20]? = some (bif (E&&B) then .pointer (some ⟨w.heap.size,2,none⟩) else undef))∧Once l 15 (A.tmps[21]? = some (bif (E&&B) then iv e else undef))∧Once l 16 (A.tmps[22]? = some (bif (E&&B) then .bool C else undef))∧Once l 17 (A.tmps[23]? = some (.bool ((E&&B)&&C)))∧Once l 18 (A.tmps[2]? = some (.bool ((E&&B)&&C)))∧Kept 0 0 w1 W) (by kernel_rfl) (by kernel_rfl) ?start ?fin ?step
 case start=>exact ⟨FR.refl _ _,az (by decide),az (by decide),az (by decide),az (by decide),az (by decide),az (by decide),az (by decide),az (by decide),az (by decide),az (by decide),az (by decide),az (by decide),az (by decide),az (by decide),az (by decide),az (by decide),az (by decide),az (by decide),az (by decide),ae (Kept.refl _ _ _)⟩
 case fin=>
  intro l A W h hl
  obtain ⟨hFR,o0,o1,o2,o3,o4,o5,o6,o7,o8,o9,o10,o11,o12,o13,o14,o15,o16,o17,o18,hK⟩:=h
  have g:=o18 (hl 18 (by decide))
  have QQ:=hide (K1.o.trans hK)
  have hc9:=hFR.chain
  simp only [List.foldl] at hc9
  rw [nP g] at hc9
  clear hl hK hFR g o0 o1 o2 o3 o4 o5 o6 o7 o8 o9 o10 o11 o12 o13 o14 o15 o16 o17 o18
  generalize A.tmps.getD 6 undef=s6 at hc9
  generalize A.tmps.getD 7 undef=s7 at hc9
  generalize A.tmps.getD 8 undef=s8 at hc9
  generalize A.tmps.getD 9 undef=s9 at hc9
  generalize A.tmps.getD 10 undef=s10 at hc9
  generalize A.tmps.getD 11 undef=s11 at hc9
  generalize A.tmps.getD 12 undef=s12 at hc9
  generalize A.tmps.getD 13 undef=s13 at hc9
  generalize A.tmps.getD 14 undef=s14 at hc9
  generalize A.tmps.getD 15 undef=s15 at hc9
  generalize A.tmps.getD 16 undef=s16 at hc9
  generalize A.tmps.getD 17 undef=s17 at hc9
  generalize A.tmps.getD 18 undef=s18 at hc9
  generalize A.tmps.getD 19 undef=s19 at hc9
  generalize A.tmps.getD 20 undef=s20 at hc9
  generalize A.tmps.getD 21 undef=s21 at hc9
  generalize A.tmps.getD 22 undef=s22 at hc9
  generalize A.tmps.getD 23 undef=s23 at hc9
  subst hc9
  go_simp
  go_wp2_with fail
  go_ret
  exact ⟨rB (by rw [←hBB,←hCC,Bool.and_assoc]),QQ.o⟩
 case step=>
  intro l A W i hI hm
  obtain ⟨hFR,o0,o1,o2,o3,o4,o5,o6,o7,o8,o9,o10,o11,o12,o13,o14,o15,o16,o17,o18,hK⟩:=hI
  obtain ⟨hi1,hi2⟩:=jL hm
  have hsz:Hid (23<A.tmps.size):=hide (by rw [hFR.size];simp)
  have m1:A.tmps[1]? = some (.pointer (some ⟨w.heap.size,0,none⟩)):=(hFR.o 1 (by decide)).trans rfl
  have m3:A.tmps[3]? = some (.iface T v):=(hFR.o 3 (by decide)).trans rfl
  rcases i with _|_|_|_|_|_|_|_|_|_|_|_|_|_|_|_|_|_|_|i
  ·refine wpOp_step rfl (fun KK hK2 => ?_)
   go_simp
   exact hK2 (A.put (some 6) (.iface T v)) _ ⟨hFR.put (by decide) _,.now (put_eq (by have hz:=hsz.o;omega)),o1.q,o2.q,o3.q,o4.q,o5.q,o6.q,o7.q,o8.q,o9.q,o10.q,o11.q,o12.q,o13.q,o14.q,o15.q,o16.q,o17.q,o18.q,hK⟩
  ·have e1:=o0 (aA hm 0 (by kernel_rfl))
   refine wpOp_step rfl (fun KK hK2 => ?_)
   go_simp
   exact hK2 (A.put (some 7) (.bool true)) _ ⟨hFR.put (by decide) _,o0.q,.now (put_eq (by have hz:=hsz.o;omega)),o2.q,o3.q,o4.q,o5.q,o6.q,o7.q,o8.q,o9.q,o10.q,o11.q,o12.q,o13.q,o14.q,o15.q,o16.q,o17.q,o18.q,hK⟩
  ·have e1:=o1 (aA hm 1 (by kernel_rfl))
   refine wpOp_step rfl (fun KK hK2 => ?_)
   go_simp
   exact hK2 (A.put (some 8) (.bool true)) _ ⟨hFR.put (by decide) _,o0.q,o1.q,.now (put_eq (by have hz:=hsz.o;omega)),o3.q,o4.q,o5.q,o6.q,o7.q,o8.q,o9.q,o10.q,o11.q,o12.q,o13.q,o14.q,o15.q,o16.q,o17.q,o18.q,hK⟩
  ·have g:=o2 (aA hm 2 (by kernel_rfl))
   refine jV (b:=true) rfl rfl rfl g (fun KK hK2 => ?_)
   go_simp
   exact hK2 (A.put (some 9) (.iface T v)) _ ⟨hFR.put (by decide) _,o0.q,o1.q,o2.q,.now (put_eq (by have hz:=hsz.o;omega)),o4.q,o5.q,o6.q,o7.q,o8.q,o9.q,o10.q,o11.q,o12.q,o13.q,o14.q,o15.q,o16.q,o17.q,o18.q,hK⟩
  ·have g:=o2 (aA hm 2 (by kernel_rfl))
   have e1:=o3 (aA hm 3 (by kernel_rfl))
   refine jV (b:=true) rfl rfl rfl g (fun KK hK2 => ?_)
   go_simp
   refine (hc W).mono ?_
   rintro r y ⟨rfl,kd⟩
   go_simp
   exact hK2 (A.put (some 10) (.agg R)) _ ⟨hFR.put (by decide) _,o0.q,o1.q,o2.q,o3.q,.now (put_eq (by have hz:=hsz.o;omega)),o5.q,o6.q,o7.q,o8.q,o9.q,o10.q,o11.q,o12.q,o13.q,o14.q,o15.q,o16.q,o17.q,o18.q,(hK.trans kd)⟩
  ·have g:=o2 (aA hm 2 (by kernel_rfl))
   have BL:=B1.o.af hK
   have x0:=BL.all
   clear BL
   refine jV (b:=true) rfl rfl rfl g (fun KK hK2 => ?_)
   go_simp
   exact hK2 (A.put (some 11) (.agg #[iv m,iv k,iv e])) _ ⟨hFR.put (by decide) _,o0.q,o1.q,o2.q,o3.q,o4.q,.now (put_eq (by have hz:=hsz.o;omega)),o6.q,o7.q,o8.q,o9.q,o10.q,o11.q,o12.q,o13.q,o14.q,o15.q,o16.q,o17.q,o18.q,hK⟩
  ·have g:=o2 (aA hm 2 (by kernel_rfl))
   have e1:=o4 (aA hm 4 (by kernel_rfl))
   have e2:=o5 (aA hm 5 (by kernel_rfl))
   refine jV (b:=true) rfl rfl rfl g (fun KK hK2 => ?_)
   go_simp
   exact hK2 (A.put (some 12) (.bool E)) _ ⟨hFR.put (by decide) _,o0.q,o1.q,o2.q,o3.q,o4.q,o5.q,.now (put_eq (by have hz:=hsz.o;omega)),o7.q,o8.q,o9.q,o10.q,o11.q,o12.q,o13.q,o14.q,o15.q,o16.q,o17.q,o18.q,hK⟩
  ·have e1:=o2 (aA hm 2 (by kernel_rfl))
   have e2:=o6 (aA hm 6 (by kernel_rfl))
   refine wpOp_step rfl (fun KK hK2 => ?_)
   go_simp
   exact hK2 (A.put (some 13) (.bool E)) _ ⟨hFR.put (by decide) _,o0.q,o1.q,o2.q,o3.q,o4.q,o5.q,o6.q,.now (put_eq (by have hz:=hsz.o;omega)),o8.q,o9.q,o10.q,o11.q,o12.q,o13.q,o14.q,o15.q,o16.q,o17.q,o18.q,hK⟩
  ·have e1:=o7 (aA hm 7 (by kernel_rfl))
   refine wpOp_step rfl (fun KK hK2 => ?_)
   go_simp
   exact hK2 (A.put (some 14) (.bool E)) _ ⟨hFR.put (by decide) _,o0.q,o1.q,o2.q,o3.q,o4.q,o5.q,o6.q,o7.q,.now (put_eq (by have hz:=hsz.o;omega)),o9.q,o10.q,o11.q,o12.q,o13.q,o14.q,o15.q,o16.q,o17.q,o18.q,hK⟩
  ·have g:=o8 (aA hm 8 (by kernel_rfl))
   rcases bfe E with hE|hE
   ·rw [hE] at g
    refine lZ (b:=true) (c:=false) rfl rfl rfl g (by decide) ?_
    exact ⟨hFR.put (by decide) _,o0.q,o1.q,o2.q,o3.q,o4.q,o5.q,o6.q,o7.q,o8.q,.now (by rw [hE];exact put_eq (by have hz:=hsz.o;omega)),o10.q,o11.q,o12.q,o13.q,o14.q,o15.q,o16.q,o17.q,o18.q,hK⟩
   ·rw [hE] at g
    refine jV (b:=true) rfl rfl rfl g (fun KK hK2 => ?_)
    go_simp
    exact hK2 (A.put (some 15) (.pointer (some ⟨w.heap.size,1,none⟩))) _ ⟨hFR.put (by decide) _,o0.q,o1.q,o2.q,o3.q,o4.q,o5.q,o6.q,o7.q,o8.q,.now (by rw [hE];exact put_eq (by have hz:=hsz.o;omega)),o10.q,o11.q,o12.q,o13.q,o14.q,o15.q,o16.q,o17.q,o18.q,hK⟩
  ·have g:=o8 (aA hm 8 (by kernel_rfl))
   have e1:=o9 (aA hm 9 (by kernel_rfl))
   rcases bfe E with hE|hE
   ·rw [hE] at g
    refine lZ (b:=true) (c:=false) rfl rfl rfl g (by decide) ?_
    exact ⟨hFR.put (by decide) _,o0.q,o1.q,o2.q,o3.q,o4.q,o5.q,o6.q,o7.q,o8.q,o9.q,.now (by rw [hE];exact put_eq (by have hz:=hsz.o;omega)),o11.q,o12.q,o13.q,o14.q,o15.q,o16.q,o17.q,o18.q,hK⟩
   ·rw [hE] at g e1
    simp only [cond_true] at e1
    have BL:=B1.o.af hK
    have x0:=BL.all
    clear BL
    refine jV (b:=true) rfl rfl rfl g (fun KK hK2 => ?_)
    go_simp
    exact hK2 (A.put (some 16) (iv k)) _ ⟨hFR.put (by decide) _,o0.q,o1.q,o2.q,o3.q,o4.q,o5.q,o6.q,o7.q,o8.q,o9.q,.now (by rw [hE];exact put_eq (by have hz:=hsz.o;omega)),o11.q,o12.q,o13.q,o14.q,o15.q,o16.q,o17.q,o18.q,hK⟩
  ·have g:=o8 (aA hm 8 (by kernel_rfl))
   have e1:=o10 (aA hm 10 (by kernel_rfl))
   rcases bfe E with hE|hE
   ·rw [hE] at g
    refine lZ (b:=true) (c:=false) rfl rfl rfl g (by decide) ?_
    exact ⟨hFR.put (by decide) _,o0.q,o1.q,o2.q,o3.q,o4.q,o5.q,o6.q,o7.q,o8.q,o9.q,o10.q,.now (by rw [hE];exact put_eq (by have hz:=hsz.o;omega)),o12.q,o13.q,o14.q,o15.q,o16.q,o17.q,o18.q,hK⟩
   ·rw [hE] at g e1
    simp only [cond_true] at e1
    refine jV (b:=true) rfl rfl rfl g (fun KK hK2 => ?_)
    go_simp
    refine st (VL k _) ?_
    rw [hBB]
    go_simp
    exact hK2 (A.put (some 17) (.bool B)) _ ⟨hFR.put (by decide) _,o0.q,o1.q,o2.q,o3.q,o4.q,o5.q,o6.q,o7.q,o8.q,o9.q,o10.q,.now (by rw [hE];exact put_eq (by have hz:=hsz.o;omega)),o12.q,o13.q,o14.q,o15.q,o16.q,o17.q,o18.q,hK⟩
  ·have e1:=o8 (aA hm 8 (by kernel_rfl))
   have e2:=o11 (aA hm 11 (by kernel_rfl))
   rcases bfe E with hE|hE
   ·rw [hE] at e1 e2
    simp only [cond_false] at e2
    refine wpOp_step rfl (fun KK hK2 => ?_)
    go_simp
    exact hK2 (A.put (some 18) (.bool false)) _ ⟨hFR.put (by decide) _,o0.q,o1.q,o2.q,o3.q,o4.q,o5.q,o6.q,o7.q,o8.q,o9.q,o10.q,o11.q,.now (by rw [hE];exact put_eq (by have hz:=hsz.o;omega)),o13.q,o14.q,o15.q,o16.q,o17.q,o18.q,hK⟩
   ·rw [hE] at e1 e2
    simp only [cond_true] at e2
    refine wpOp_step rfl (fun KK hK2 => ?_)
    go_simp
    exact hK2 (A.put (some 18) (.bool B)) _ ⟨hFR.put (by decide) _,o0.q,o1.q,o2.q,o3.q,o4.q,o5.q,o6.q,o7.q,o8.q,o9.q,o10.q,o11.q,.now (by rw [hE];exact put_eq (by have hz:=hsz.o;omega)),o13.q,o14.q,o15.q,o16.q,o17.q,o18.q,hK⟩
  ·have e1:=o12 (aA hm 12 (by kernel_rfl))
   refine wpOp_step rfl (fun KK hK2 => ?_)
   go_simp
   exact hK2 (A.put (some 19) (.bool (E&&B))) _ ⟨hFR.put (by decide) _,o0.q,o1.q,o2.q,o3.q,o4.q,o5.q,o6.q,o7.q,o8.q,o9.q,o10.q,o11.q,o12.q,.now (put_eq (by have hz:=hsz.o;omega)),o14.q,o15.q,o16.q,o17.q,o18.q,hK⟩
  ·have g:=o13 (aA hm 13 (by kernel_rfl))
   rcases bfe (E&&B) with hE|hE
   ·rw [hE] at g
    refine lZ (b:=true) (c:=false) rfl rfl rfl g (by decide) ?_
    exact ⟨hFR.put (by decide) _,o0.q,o1.q,o2.q,o3.q,o4.q,o5.q,o6.q,o7.q,o8.q,o9.q,o10.q,o11.q,o12.q,o13.q,.now (by rw [hE];exact put_eq (by have hz:=hsz.o;omega)),o15.q,o16.q,o17.q,o18.q,hK⟩
   ·rw [hE] at g
    refine jV (b:=true) rfl rfl rfl g (fun KK hK2 => ?_)
    go_simp
    exact hK2 (A.put (some 20) (.pointer (some ⟨w.heap.size,2,none⟩))) _ ⟨hFR.put (by decide) _,o0.q,o1.q,o2.q,o3.q,o4.q,o5.q,o6.q,o7.q,o8.q,o9.q,o10.q,o11.q,o12.q,o13.q,.now (by rw [hE];exact put_eq (by have hz:=hsz.o;omega)),o15.q,o16.q,o17.q,o18.q,hK⟩
  ·have g:=o13 (aA hm 13 (by kernel_rfl))
   have e1:=o14 (aA hm 14 (by kernel_rfl))
   rcases bfe (E&&B) with hE|hE
   ·rw [hE] at g
    refine lZ (b:=true) (c:=false) rfl rfl rfl g (by decide) ?_
    exact ⟨hFR.put (by decide) _,o0.q,o1.q,o2.q,o3.q,o4.q,o5.q,o6.q,o7.q,o8.q,o9.q,o10.q,o11.q,o12.q,o13.q,o14.q,.now (by rw [hE];exact put_eq (by have hz:=hsz.o;omega)),o16.q,o17.q,o18.q,hK⟩
   ·rw [hE] at g e1
    simp only [cond_true] at e1
    have BL:=B1.o.af hK
    have x0:=BL.all
    clear BL
    refine jV (b:=true) rfl rfl rfl g (fun KK hK2 => ?_)
    go_simp
    exact hK2 (A.put (some 21) (iv e)) _ ⟨hFR.put (by decide) _,o0.q,o1.q,o2.q,o3.q,o4.q,o5.q,o6.q,o7.q,o8.q,o9.q,o10.q,o11.q,o12.q,o13.q,o14.q,.now (by rw [hE];exact put_eq (by have hz:=hsz.o;omega)),o16.q,o17.q,o18.q,hK⟩
  ·have g:=o13 (aA hm 13 (by kernel_rfl))
   have e1:=o15 (aA hm 15 (by kernel_rfl))
   rcases bfe (E&&B) with hE|hE
   ·rw [hE] at g
    refine lZ (b:=true) (c:=false) rfl rfl rfl g (by decide) ?_
    exact ⟨hFR.put (by decide) _,o0.q,o1.q,o2.q,o3.q,o4.q,o5.q,o6.q,o7.q,o8.q,o9.q,o10.q,o11.q,o12.q,o13.q,o14.q,o15.q,.now (by rw [hE];exact put_eq (by have hz:=hsz.o;omega)),o17.q,o18.q,hK⟩
   ·rw [hE] at g e1
    simp only [cond_true] at e1
    refine jV (b:=true) rfl rfl rfl g (fun KK hK2 => ?_)
    go_simp
    refine st (isWord e _ lo hi) ?_
    rw [hCC]
    go_simp
    exact hK2 (A.put (some 22) (.bool C)) _ ⟨hFR.put (by decide) _,o0.q,o1.q,o2.q,o3.q,o4.q,o5.q,o6.q,o7.q,o8.q,o9.q,o10.q,o11.q,o12.q,o13.q,o14.q,o15.q,.now (by rw [hE];exact put_eq (by have hz:=hsz.o;omega)),o17.q,o18.q,hK⟩
  ·have e1:=o13 (aA hm 13 (by kernel_rfl))
   have e2:=o16 (aA hm 16 (by kernel_rfl))
   rcases bfe (E&&B) with hE|hE
   ·rw [hE] at e1 e2
    simp only [cond_false] at e2
    refine wpOp_step rfl (fun KK hK2 => ?_)
    go_simp
    exact hK2 (A.put (some 23) (.bool false)) _ ⟨hFR.put (by decide) _,o0.q,o1.q,o2.q,o3.q,o4.q,o5.q,o6.q,o7.q,o8.q,o9.q,o10.q,o11.q,o12.q,o13.q,o14.q,o15.q,o16.q,.now (by rw [hE];exact put_eq (by have hz:=hsz.o;omega)),o18.q,hK⟩
   ·rw [hE] at e1 e2
    simp only [cond_true] at e2
    refine wpOp_step rfl (fun KK hK2 => ?_)
    go_simp
    exact hK2 (A.put (some 23) (.bool C)) _ ⟨hFR.put (by decide) _,o0.q,o1.q,o2.q,o3.q,o4.q,o5.q,o6.q,o7.q,o8.q,o9.q,o10.q,o11.q,o12.q,o13.q,o14.q,o15.q,o16.q,.now (by rw [hE];exact put_eq (by have hz:=hsz.o;omega)),o18.q,hK⟩
  ·have e1:=o17 (aA hm 17 (by kernel_rfl))
   refine wpOp_step rfl (fun KK hK2 => ?_)
   go_simp
   exact hK2 (A.put (some 2) (.bool ((E&&B)&&C))) _ ⟨hFR.put (by decide) _,o0.q,o1.q,o2.q,o3.q,o4.q,o5.q,o6.q,o7.q,o8.q,o9.q,o10.q,o11.q,o12.q,o13.q,o14.q,o15.q,o16.q,o17.q,.now (put_eq (by have hz:=hsz.o;omega)),hK⟩
  ·simp at hi1
   omega
theorem modes {m:Int} (h:Pl.dB m=true):m=0∨m=1∨m=2∨m=3∨m=4∨m=5∨m=6∨m=7:=by
 simp [Pl.dB,Pl.within] at h
 omega
theorem zQ (m k e k' e':Int) (w:World):(binOp .eql 107 (.agg #[iv m,iv k',iv e']) (.agg #[iv m,iv k,iv e])).run prog w=.ok (.bool ((k'==k)&&(e'==e))) w:=by
 go_simp
 by_cases h1:k'=k<;>by_cases h2:e'=e<;>simp [h1,h2]
theorem kE (w:World) (m k e:Int) (wfm:(Lit.int .i64 m).wf=true) (wfk:(Lit.int .i64 k).wf=true) (wfe:(Lit.int .i64 e).wf=true) :
  Calls prog 188 #[.agg #[iv m,iv k,iv e]] w fun r w'=>r=.returned (.bool (Pl.iT m k e))∧Kept 0 0 w w':=by
 obtain ⟨lo,hi⟩:=wfB wfe
 cases h:Pl.dB m
 ·have G:Hid (Pl.iT m k e=false):=hide (by unfold Pl.iT;rw [h];rfl)
  have K0:=hide (kept_alloc w (.cells #[iv m,iv k,iv e] 107))
  go_enter func188,ntmps188
  go_wp2_with fail
  refine (CP m k e _ h).mono ?_
  rintro r w1 ⟨rfl,k1⟩
  have K1:=hide (K0.o.trans k1)
  clear k1
  go_wp2_with fail
  go_quiet (fail)
  go_wp2_with fail
  go_ret
  exact ⟨rB (by rw [G.o]),au K1.o _⟩
 ·rcases modes h with rfl|rfl|rfl|rfl|rfl|rfl|rfl|rfl
  ·have q:=pV 0 k e w 202 283 (.agg #[iv k]) _ _ lo hi (fun w=>Au k e w) (fun w=>Vu _ w) (fun w=>Iw k e w) fn0 (fun w=>zQ 0 k e k 0 w)
   have G:(((k:Int)==k)&&((0:Int)==e)&&(Pl.within k 0 3&&Pl.aS e))=Pl.iT 0 k e:=by
    unfold Pl.iT
    rw [show Pl.dB 0=true from by decide,show decide ((0:Int)<6)=true from by decide,show Pl.jS 0=false from by decide,Bool.eq_iff_iff]
    simp
    grind
   rw [G] at q
   exact q
  ·have q:=pV 1 k e w 203 284 (.agg #[iv k]) _ _ lo hi (fun w=>Ar k e w) (fun w=>Vt _ w) (fun w=>Iu k e w) fn1 (fun w=>zQ 1 k e k 0 w)
   have G:(((k:Int)==k)&&((0:Int)==e)&&(Pl.within k 0 3&&Pl.aS e))=Pl.iT 1 k e:=by
    unfold Pl.iT
    rw [show Pl.dB 1=true from by decide,show decide ((1:Int)<6)=true from by decide,show Pl.jS 1=false from by decide,Bool.eq_iff_iff]
    simp
    grind
   rw [G] at q
   exact q
  ·have q:=pV 2 k e w 212 286 (.agg #[iv k]) _ _ lo hi (fun w=>Aq k e w) (fun w=>Vs _ w) (fun w=>Ir k e w) fn2 (fun w=>zQ 2 k e k 0 w)
   have G:(((k:Int)==k)&&((0:Int)==e)&&(Pl.within k 0 3&&Pl.aS e))=Pl.iT 2 k e:=by
    unfold Pl.iT
    rw [show Pl.dB 2=true from by decide,show decide ((2:Int)<6)=true from by decide,show Pl.jS 2=false from by decide,Bool.eq_iff_iff]
    simp
    grind
   rw [G] at q
   exact q
  ·have q:=pV 3 k e w 213 287 (.agg #[iv k]) _ _ lo hi (fun w=>Ap k e w) (fun w=>Vr _ w) (fun w=>Iq k e w) fn3 (fun w=>zQ 3 k e k 0 w)
   have G:(((k:Int)==k)&&((0:Int)==e)&&(Pl.within k 0 3&&Pl.aS e))=Pl.iT 3 k e:=by
    unfold Pl.iT
    rw [show Pl.dB 3=true from by decide,show decide ((3:Int)<6)=true from by decide,show Pl.jS 3=false from by decide,Bool.eq_iff_iff]
    simp
    grind
   rw [G] at q
   exact q
  ·have q:=pV 4 k e w 214 288 (.agg #[iv k]) _ _ lo hi (fun w=>Am k e w) (fun w=>Vq _ w) (fun w=>Ip k e w) fn4 (fun w=>zQ 4 k e k 0 w)
   have G:(((k:Int)==k)&&((0:Int)==e)&&(Pl.within k 0 3&&Pl.aS e))=Pl.iT 4 k e:=by
    unfold Pl.iT
    rw [show Pl.dB 4=true from by decide,show decide ((4:Int)<6)=true from by decide,show Pl.jS 4=false from by decide,Bool.eq_iff_iff]
    simp
    grind
   rw [G] at q
   exact q
  ·have q:=pV 5 k e w 216 289 (.agg #[iv k,iv e]) _ _ lo hi (fun w=>Ak k e w) (fun w=>Vp _ w) (fun w=>Io k e w) fn5 (fun w=>zQ 5 k e k e w)
   have G:(((k:Int)==k)&&((e:Int)==e)&&(Pl.within k 0 3&&Pl.aS e))=Pl.iT 5 k e:=by
    unfold Pl.iT
    rw [show Pl.dB 5=true from by decide,show decide ((5:Int)<6)=true from by decide,show Pl.jS 5=true from by decide,Bool.eq_iff_iff]
    simp
    skip
   rw [G] at q
   exact q
  ·have q:=pV 6 k e w 217 290 (.agg #[iv e]) _ _ lo hi (fun w=>Aj k e w) (fun w=>Vo _ w) (fun w=>Il k e w) fn6 (fun w=>zQ 6 k e 0 e w)
   have G:(((0:Int)==k)&&((e:Int)==e)&&(Pl.within k 0 3&&Pl.aS e))=Pl.iT 6 k e:=by
    unfold Pl.iT
    rw [show Pl.dB 6=true from by decide,show decide ((6:Int)<6)=false from by decide,show Pl.jS 6=true from by decide,Bool.eq_iff_iff]
    simp
    grind
   rw [G] at q
   exact q
  ·have q:=pV 7 k e w 205 285 (.agg #[iv e]) _ _ lo hi (fun w=>Ai k e w) (fun w=>Vm _ w) (fun w=>Ik k e w) fn7 (fun w=>zQ 7 k e 0 e w)
   have G:(((0:Int)==k)&&((e:Int)==e)&&(Pl.within k 0 3&&Pl.aS e))=Pl.iT 7 k e:=by
    unfold Pl.iT
    rw [show Pl.dB 7=true from by decide,show decide ((7:Int)<6)=false from by decide,show Pl.jS 7=true from by decide,Bool.eq_iff_iff]
    simp
    grind
   rw [G] at q
   exact q
end Go.Proofs.YtkkmnnhaailkcaaGreatDoor
