/- Part 2 of what the last text leans on. -/
import Derived.Test.YtkkmnnhaailkcaaGreatJE1
import Derived.BigQuiet
import Derived.Deep.QuietTactic
import Derived.Deep.RegionHeld3
import Derived.Deep.AppendLies
import Derived.Maps.AppendAt
import Derived.Laws.AppendOwnNone
import Derived.Deep.RegionLawGrows
import Derived.Deep.DeepCutAuto
set_option maxRecDepth 100000
set_option maxHeartbeats 16000000
namespace Go.Proofs.YtkkmnnhaailkcaaGreat
open Go.RowKit Go.Proofs.Tryz
set_option linter.unusedVariables false
structure KeptB (p q:Option Nat) (w w':World):Prop where
 os:w'.os=w.os
 tape:w'.tape=w.tape
 output:w'.output=w.output
 size:w.heap.size≤w'.heap.size
 block:∀k,k<w.heap.size→some k≠p→some k≠q→w'.heap[k]? = w.heap[k]?
theorem kb_of {p q:Option Nat} {w X w1 w2:World} (k:Kept 0 0 w X) (g1:X.grownBy w1 p) (g2:w1.grownBy w2 q):KeptB p q w w2:=
 ⟨(g2.os.trans g1.os).trans k.os,(g2.tape.trans g1.tape).trans k.tape,(g2.output.trans g1.output).trans k.output,Nat.le_trans k.size (Nat.le_trans g1.size g2.size),fun i hi h1 h2=>
  (g2.block i (Nat.lt_of_lt_of_le (Nat.lt_of_lt_of_le hi k.size) g1.size) h2).trans ((g1.block i (Nat.lt_of_lt_of_le hi k.size) h1).trans (k.block i hi (by omega)))⟩
theorem Own.keptB {w w':World} {g:Nat} {xs:List Int} {p q:Option Nat} (h:Own w g xs) (k:KeptB p q w w') (h1:some g≠p) (h2:some g≠q):Own w' g xs:=by
 intro i hi
 obtain ⟨hc,hf⟩:=h i hi
 have e:=k.block g (World.block_lt_of_cell? _ _ hc) h1 h2
 exact ⟨by rw [World.cell?_of_block (w:=w) e];exact hc,by rw [World.frozen?_of_block (w:=w) e];exact hf⟩
theorem SlotIn.keptB {w w':World} {lo hi:Nat} {a:Option Addr} {xs:List Int} {p q:Option Nat} (h:SlotIn w lo hi a xs) (k:KeptB p q w w') (h1:∀g,blk a=some g→some g≠p) (h2:∀g,blk a=some g→some g≠q):SlotIn w' lo hi a xs:=by
 rcases h with h|⟨g,ea,b0,b1,ho⟩
 ·exact .inl h
 ·exact .inr ⟨g,ea,b0,b1,ho.keptB k (h1 g (by rw [ea];rfl)) (h2 g (by rw [ea];rfl))⟩
theorem markRegs2 (w:World) (lo hi:Nat) (o pc fl mk:Int) (su tr:Bool) (a b:Option Addr) (ca cb:Nat) (xs ys:List Int) (q:Int) (ha:SlotIn w lo hi a xs) (hb:SlotIn w lo hi b ys) (hab:∀g,blk a=some g→blk b≠some g) (hh:hi≤w.heap.size) (lx:xs.length≤2000000) (ly:ys.length≤2000000) (q0:0≤q) (q1:q≤10000000) :
  Calls prog 26 #[.agg #[.slice a xs.length ca,.slice b ys.length cb,iv o,iv pc,iv fl,iv mk,.bool su,.bool tr],iv q] w fun e w'=>e=.returned (iv (q+(xs.length:Int)+(ys.length:Int)))∧SlotIn w' lo hi a (marks q xs.length)∧SlotIn w' lo hi b (marks (q+(xs.length:Int)) ys.length)∧Kept lo hi w w'∧KeptB (blk a) (blk b) w w':=by
 have HA:=hide ha
 have HB:=hide hb
 have HAB:=hide hab
 clear ha hb hab
 go_enter func26,ntmps26
 go_wp2_with fail
 have k0:=kept_alloc w (.cells #[.slice a xs.length ca,.slice b ys.length cb,iv o,iv pc,iv fl,iv mk,.bool su,.bool tr] 33)
 have s0:=HA.out.kept k0 (by omega)
 have t0:=HB.out.kept k0 (by omega)
 refine (markSlot _ lo ca a xs q (s0.slot (by simp;omega)) lx q0 (by omega)).mono ?_
 rintro e w1 ⟨rfl,s1,g1⟩
 have k1:=kept_row g1 s0.blk_in
 have s1':=s0.again s1
 have B0:=(Blk.new w #[.slice a xs.length ca,.slice b ys.length cb,iv o,iv pc,iv fl,iv mk,.bool su,.bool tr] 33).kept k1 (by omega)
 have c1:=B0.cell (i:=1) rfl
 have t1:SlotIn w1 lo hi b ys:=by
  rcases t0 with t|⟨g,eb,b0,b1,ho⟩
  ·exact .inl t
  ·refine .inr ⟨g,eb,b0,b1,ho.kept g1 ?_⟩
   intro e
   exact HAB.out g e.symm (by rw [eb];rfl)
 have HG1:=hide g1
 have HK0:=hide k0
 have HK1:=hide ((k0.any (lo:=lo) (hi:=hi)).trans k1)
 have HS1:=hide s1'
 have HT1:=hide t1
 clear k0 s0 t0 s1 g1 k1 s1' t1 B0
 go_wp2_with fail
 refine (markSlot _ lo cb b ys (q+(xs.length:Int)) (HT1.out.slot (Nat.le_trans hh HK1.out.size)) ly (by omega) (by omega)).mono ?_
 rintro e w2 ⟨rfl,s2,g2⟩
 have k2:=kept_row g2 HT1.out.blk_in
 have HS2:Hid (SlotIn w2 lo hi a (marks q xs.length)):=hide (by
  rcases HS1.out with t|⟨g,ea,b0,b1,ho⟩
  ·exact .inl t
  ·refine .inr ⟨g,ea,b0,b1,ho.kept g2 ?_⟩
   intro e
   exact HAB.out g (by rw [ea];rfl) e.symm)
 have HT2:=hide (HT1.out.again s2)
 have HK2:=hide (HK1.out.trans k2)
 have HB2:=hide (kb_of HK0.out HG1.out g2)
 clear s2 g2 k2
 go_wp2_with fail
 go_ret
 exact ⟨rfl,HS2.out,HT2.out,HK2.out,HB2.out⟩
theorem markBus2 (w:World) (lo hi:Nat) (a b:Option Addr) (ca cb m:Nat) (xs ys:List Int) (q:Int) (ha:SlotIn w lo hi a xs) (hb:SlotIn w lo hi b ys) (hab:∀g,blk a=some g→blk b≠some g) (hh:hi≤w.heap.size) (lx:xs.length≤2000000) (ly:ys.length=5*m) (bm:m≤2000000) (q0:0≤q) (q1:q≤10000000) :
  Calls prog 27 #[.agg #[.slice a xs.length ca,.slice b m cb],iv q] w fun e w'=>e=.returned (iv (q+(xs.length:Int)+5*(m:Int)))∧SlotIn w' lo hi a (marks q xs.length)∧SlotIn w' lo hi b (marks (q+(xs.length:Int)) (5*m))∧Kept lo hi w w'∧KeptB (blk a) (blk b) w w':=by
 have HY:=hide ly
 have HA:=hide ha
 have HB:=hide hb
 have HAB:=hide hab
 clear ly ha hb hab
 go_enter func27,ntmps27
 go_wp2_with fail
 have k0:=kept_alloc w (.cells #[.slice a xs.length ca,.slice b m cb] 36)
 have s0:=HA.out.kept k0 (by omega)
 have t0:=HB.out.kept k0 (by omega)
 refine (markSlot _ lo ca a xs q (s0.slot (by simp;omega)) lx q0 (by omega)).mono ?_
 rintro e w1 ⟨rfl,s1,g1⟩
 have k1:=kept_row g1 s0.blk_in
 have s1':=s0.again s1
 have B0:=(Blk.new w #[.slice a xs.length ca,.slice b m cb] 36).kept k1 (by omega)
 have c1:=B0.cell (i:=1) rfl
 have t1:SlotIn w1 lo hi b ys:=by
  rcases t0 with t|⟨g,eb,b0,b1,ho⟩
  ·exact .inl t
  ·refine .inr ⟨g,eb,b0,b1,ho.kept g1 ?_⟩
   intro e
   exact HAB.out g e.symm (by rw [eb];rfl)
 have HG1:=hide g1
 have HK0:=hide k0
 have HK1:=hide ((k0.any (lo:=lo) (hi:=hi)).trans k1)
 have HS1:=hide s1'
 have HT1:=hide t1
 clear k0 s0 t0 s1 g1 k1 s1' t1 B0
 go_wp2_with fail
 refine (markSlotA _ lo cb m b ys (q+(xs.length:Int)) (HT1.out.slot (Nat.le_trans hh HK1.out.size)) HY.out bm (by omega) (by omega)).mono ?_
 rintro e w2 ⟨rfl,s2,g2⟩
 have k2:=kept_row g2 HT1.out.blk_in
 have HS2:Hid (SlotIn w2 lo hi a (marks q xs.length)):=hide (by
  rcases HS1.out with t|⟨g,ea,b0,b1,ho⟩
  ·exact .inl t
  ·refine .inr ⟨g,ea,b0,b1,ho.kept g2 ?_⟩
   intro e
   exact HAB.out g (by rw [ea];rfl) e.symm)
 have HT2:=hide (HT1.out.again s2)
 have HK2:=hide (HK1.out.trans k2)
 have HB2:=hide (kb_of HK0.out HG1.out g2)
 clear s2 g2 k2
 go_wp2_with fail
 go_ret
 exact ⟨rfl,HS2.out,HT2.out,HK2.out,HB2.out⟩
structure CpSl (w:World) (lo hi:Nat) (c:Pl.Cp) (a b e q:Option Addr):Prop where
 d:SlotIn w lo hi a c.r.xs
 a':SlotIn w lo hi b c.r.ys
 b':SlotIn w lo hi e c.bx
 l:SlotIn w lo hi q c.bl
 n1:∀g,blk a=some g→blk b≠some g
 n2:∀g,blk a=some g→blk e≠some g
 n3:∀g,blk a=some g→blk q≠some g
 n4:∀g,blk b=some g→blk e≠some g
 n5:∀g,blk b=some g→blk q≠some g
 n6:∀g,blk e=some g→blk q≠some g
theorem CpSl.kept {w w':World} {l h lo hi:Nat} {c:Pl.Cp} {a b e q:Option Addr} (s:CpSl w l h c a b e q) (k:Kept lo hi w w') (hd:h≤lo∨hi≤l∨hi≤lo):CpSl w' l h c a b e q:=
 ⟨s.d.kept k hd,s.a'.kept k hd,s.b'.kept k hd,s.l.kept k hd,s.n1,s.n2,s.n3,s.n4,s.n5,s.n6⟩
def szC (n m k j:Nat) (left:Int):Int:=if szB n m left<0 then -1 else szB k j (szB n m left)
theorem szC_neg {n m k j:Nat} {left:Int} (h:¬szC n m k j left<0):(n:Int)+(m:Int)+(k:Int)+(j:Int)≤left:=by
 unfold szC at h
 split at h
 ·exact absurd (by decide) h
 ·rename_i h1
  have a1:=szB_neg h1
  have a2:=szB_neg h
  unfold szB at a2
  split at a2
  ·omega
  ·split at a2<;>omega
theorem szB_hi {n m:Nat} {left:Int} (h:¬szB n m left<0):0≤szB n m left∧szB n m left≤left:=by
 unfold szB at h ⊢
 split
 ·rename_i h1;rw [if_pos h1] at h;exact absurd (by decide) h
 ·rename_i h1
  rw [if_neg h1] at h
  split
  ·rename_i h2;rw [if_pos h2] at h;exact absurd (by decide) h
  ·omega
theorem szB_minus {n m:Nat} {left:Int} (h:szB n m left<0):szB n m left = -1:=by
 unfold szB at h ⊢
 split
 ·rfl
 ·rename_i h1
  rw [if_neg h1] at h
  split
  ·rfl
  ·rename_i h2;rw [if_neg h2] at h;omega
theorem szCpu (w:World) (c:Pl.Cp) (a b e q:Option Addr) (ca cb ce cq:Nat) (left:Int) (lx:c.r.xs.length≤9223372036854775807) (ly:c.r.ys.length≤9223372036854775807) (lb:c.bx.length≤9223372036854775807) (lm:c.bm≤9223372036854775807) (l0:0≤left) (l1:left≤2000000) :
  Calls prog 4 #[.agg (cpA c a b e q ca cb ce cq),iv left] w fun r w'=>r=.returned (iv (szC c.r.xs.length c.r.ys.length c.bx.length c.bm left))∧Kept 0 0 w w':=by
 have K0:=hide (kept_alloc w (.cells (cpA c a b e q ca cb ce cq) 29))
 have B0:=hide (Blk.new w (cpA c a b e q ca cb ce cq) 29)
 by_cases h:szB c.r.xs.length c.r.ys.length left<0
 ·have E:Hid (szC c.r.xs.length c.r.ys.length c.bx.length c.bm left = -1):=hide (by simp [szC,h])
  have e1:=szB_minus h
  go_enter func4,ntmps4
  go_wp2_with fail
  refine (szRegs _ _ _ _ _ _ _ _ _ _ _ _ _ left lx ly l0 l1).mono ?_
  rintro e9 w1 ⟨rfl,k⟩
  rw [e1]
  have HK:=hide (K0.out.trans k)
  clear k
  go_wp2_with fail
  go_ret
  exact ⟨rI E.out.symm,HK.out⟩
 ·obtain ⟨s0,s1⟩:=szB_hi h
  have E:Hid (szC c.r.xs.length c.r.ys.length c.bx.length c.bm left=szB c.bx.length c.bm (szB c.r.xs.length c.r.ys.length left)):=hide (by simp [szC,h])
  revert h s0 s1 E
  generalize hS:szB c.r.xs.length c.r.ys.length left=S
  have HS:=hide hS
  clear hS
  intro h s0 s1 E
  by_cases h2:szB c.bx.length c.bm S<0
  all_goals
   have E2:=hide (fun q=>@szB_minus c.bx.length c.bm S q)
   go_enter func4,ntmps4
   go_wp2_with fail
   refine (szRegs _ _ _ _ _ _ _ _ _ _ _ _ _ left lx ly l0 l1).mono ?_
   rintro e9 w1 ⟨rfl,k⟩
   rw [HS.out]
   have HK:=hide (K0.out.trans k)
   have B1:=hide (B0.out.kept0 k)
   clear k
   have i8:=B1.out.cell (i:=8) rfl
   have i9:=B1.out.cell (i:=9) rfl
   go_wp2_with fail
   refine (szBus _ _ _ _ _ _ _ S lb lm s0 (by omega)).mono ?_
   rintro e9 w2 ⟨rfl,k⟩
   have HK2:=hide (HK.out.trans k)
   clear k i8 i9
   go_wp2_with fail
   go_ret
   first
    | exact ⟨rI E.out.symm,HK2.out⟩
    | exact ⟨rI (by rw [E.out,E2.out h2]),HK2.out⟩
theorem eqCpu (w:World) (c:Pl.Cp) (a b e q a2 b2 e2 q2:Option Addr) (ca cb ce cq ca2 cb2 ce2 cq2:Nat) (ha:IRow w a c.r.xs) (hb:IRow w b c.r.ys) (he:IRow w e c.bx) (hq:IRow w q c.bl) (ha2:IRow w a2 c.r.xs) (hb2:IRow w b2 c.r.ys) (he2:IRow w e2 c.bx) (hq2:IRow w q2 c.bl) (lx:c.r.xs.length≤2000000) (ly:c.r.ys.length≤2000000) (lb:c.bx.length≤2000000) (ll:c.bl.length=5*c.bm) (lm:c.bm≤2000000) :
  Calls prog 9 #[.agg (cpA c a b e q ca cb ce cq),.agg (cpA c a2 b2 e2 q2 ca2 cb2 ce2 cq2)] w fun r w'=>r=.returned (.bool true)∧Kept 0 0 w w':=by
 have K0:=hide (kept_new (kept_alloc w (.cells (cpA c a b e q ca cb ce cq) 38)) (.cells (cpA c a2 b2 e2 q2 ca2 cb2 ce2 cq2) 38))
 have B0:=(Blk.new w (cpA c a b e q ca cb ce cq) 38).alloc (.cells (cpA c a2 b2 e2 q2 ca2 cb2 ce2 cq2) 38)
 have B1:=Blk.new (w.alloc (.cells (cpA c a b e q ca cb ce cq) 38)) (cpA c a2 b2 e2 q2 ca2 cb2 ce2 cq2) 38
 simp only [World.size_alloc] at B1
 obtain ⟨X,hX⟩:∃X:World,(w.alloc (.cells (cpA c a b e q ca cb ce cq) 38)).alloc (.cells (cpA c a2 b2 e2 q2 ca2 cb2 ce2 cq2) 38)=X:=⟨_,rfl⟩
 rw [hX] at K0 B0 B1
 have HB0:=hide B0
 have HB1:=hide B1
 have i0:=B0.all
 have j0:=B1.all
 have HL:=hide ll
 have HE:=hide (he.keptS K0.out)
 have HQ:=hide (hq.keptS K0.out)
 have HE2:=hide (he2.keptS K0.out)
 have HQ2:=hide (hq2.keptS K0.out)
 have HA:=hide (ha.keptS K0.out)
 have HB:=hide (hb.keptS K0.out)
 have HA2:=hide (ha2.keptS K0.out)
 have HBB2:=hide (hb2.keptS K0.out)
 clear B0 B1 ll ha hb he hq ha2 hb2 he2 hq2
 go_enter func9,ntmps9
 go_wp2_with fail
 refine (eqRegs _ c.r.o c.r.p c.r.f c.r.m c.r.s c.r.t a b a2 b2 ca cb ca2 cb2 c.r.xs c.r.ys HA.out HB.out HA2.out HBB2.out lx ly).mono ?_
 rintro e9 w1 ⟨rfl,k⟩
 have K1:=hide (K0.out.trans k)
 have C0:=hide (HB0.out.kept0 k)
 have C1:=hide (HB1.out.kept0 k)
 have HE':=hide (HE.out.keptS k)
 have HQ':=hide (HQ.out.keptS k)
 have HE2':=hide (HE2.out.keptS k)
 have HQ2':=hide (HQ2.out.keptS k)
 clear k i0 j0
 have i8:=C0.out.all
 have j8:=C1.out.all
 go_wp2_with fail
 refine (eqBus _ e q e2 q2 ce cq ce2 cq2 c.bm c.bm c.bx c.bl c.bx c.bl HE'.out HQ'.out HE2'.out HQ2'.out lb lb HL.out HL.out lm lm).mono ?_
 rintro e9 w2 ⟨rfl,k⟩
 rw [show (decide (c.bx=c.bx)&&decide (c.bl=c.bl))=true from by simp]
 have K2:=hide (K1.out.trans k)
 have D0:=hide (C0.out.kept0 k)
 have D1:=hide (C1.out.kept0 k)
 clear k
 have i10:=D0.out.cell (i:=10) rfl
 have i11:=D0.out.cell (i:=11) rfl
 have j10:=D1.out.cell (i:=10) rfl
 have j11:=D1.out.cell (i:=11) rfl
 go_wp2_with fail
 go_ret
 exact ⟨rfl,K2.out⟩
def Pl.mkC (c:Pl.Cp) (k:Int):Pl.Cp:={c with r:={c.r with xs:=marks k c.r.xs.length,ys:=marks (k+(c.r.xs.length:Int)) c.r.ys.length},bx:=marks (k+(c.r.xs.length:Int)+(c.r.ys.length:Int)) c.bx.length,bl:=marks (k+(c.r.xs.length:Int)+(c.r.ys.length:Int)+(c.bx.length:Int)) (5*c.bm)}
def Pl.mkN (c:Pl.Cp) (k:Int):Int:=k+(c.r.xs.length:Int)+(c.r.ys.length:Int)+(c.bx.length:Int)+5*(c.bm:Int)
theorem markCpu (w:World) (lo hi:Nat) (c:Pl.Cp) (a b e q:Option Addr) (ca cb ce cq:Nat) (hs:CpSl w lo hi c a b e q) (hh:hi≤w.heap.size) (lx:c.r.xs.length≤2000000) (ly:c.r.ys.length≤2000000) (lb:c.bx.length≤2000000) (ll:c.bl.length=5*c.bm) (lm:c.bm≤2000000) :
  Calls prog 10 #[.agg (cpA c a b e q ca cb ce cq),iv 1] w fun r w'=>r=.returned (iv (Pl.mkN c 1))∧CpSl w' lo hi (Pl.mkC c 1) a b e q∧Kept lo hi w w':=by
 have E:Hid (Pl.mkN c 1=1+(c.r.xs.length:Int)+(c.r.ys.length:Int)+(c.bx.length:Int)+5*(c.bm:Int)):=hide rfl
 have K0:=hide (kept_alloc w (.cells (cpA c a b e q ca cb ce cq) 38))
 have B0:=Blk.new w (cpA c a b e q ca cb ce cq) 38
 have HS:=hide (hs.kept K0.out (by omega))
 have hsz:hi≤(w.alloc (.cells (cpA c a b e q ca cb ce cq) 38)).heap.size:=by simp;omega
 obtain ⟨X,hX⟩:∃X:World,w.alloc (.cells (cpA c a b e q ca cb ce cq) 38)=X:=⟨_,rfl⟩
 rw [hX] at K0 B0 HS hsz
 have HB0:=hide B0
 have i0:=B0.all
 have HL:=hide ll
 clear B0 ll hs
 go_enter func10,ntmps10
 go_wp2_with fail
 refine (markRegs2 _ lo hi c.r.o c.r.p c.r.f c.r.m c.r.s c.r.t a b ca cb c.r.xs c.r.ys 1 HS.out.d HS.out.a' HS.out.n1 hsz (by omega) (by omega) (by decide) (by decide)).mono ?_
 rintro e9 w1 ⟨rfl,s1,s2,k,kb⟩
 have K1:=hide ((K0.out.any (lo:=lo) (hi:=hi)).trans k)
 have C0:=hide (HB0.out.kept k (by omega))
 have HM1:=hide s1
 have HM2:=hide s2
 have HE:=hide (HS.out.b'.keptB kb (fun g h1 h2=>HS.out.n2 g h2.symm h1) (fun g h1 h2=>HS.out.n4 g h2.symm h1))
 have HQ:=hide (HS.out.l.keptB kb (fun g h1 h2=>HS.out.n3 g h2.symm h1) (fun g h1 h2=>HS.out.n5 g h2.symm h1))
 have hz1:=k.size
 clear k kb s1 s2 i0
 have i8:=C0.out.cell (i:=8) rfl
 have i9:=C0.out.cell (i:=9) rfl
 go_wp2_with fail
 refine (markBus2 _ lo hi e q ce cq c.bm c.bx c.bl (1+(c.r.xs.length:Int)+(c.r.ys.length:Int)) HE.out HQ.out HS.out.n6 (by omega) lb HL.out lm (by omega) (by omega)).mono ?_
 rintro e9 w2 ⟨rfl,s3,s4,k,kb⟩
 have K2:=hide (K1.out.trans k)
 have HM3:=hide s3
 have HM4:=hide s4
 have HN1:=hide (HM1.out.keptB kb (fun g h1 h2=>HS.out.n2 g h1 h2.symm) (fun g h1 h2=>HS.out.n3 g h1 h2.symm))
 have HN2:=hide (HM2.out.keptB kb (fun g h1 h2=>HS.out.n4 g h1 h2.symm) (fun g h1 h2=>HS.out.n5 g h1 h2.symm))
 clear k kb s3 s4
 go_wp2_with fail
 go_ret
 exact ⟨rI E.out.symm,⟨HN1.out,HN2.out,HM3.out,HM4.out,HS.out.n1,HS.out.n2,HS.out.n3,HS.out.n4,HS.out.n5,HS.out.n6⟩,K2.out⟩
theorem heldCpu (w:World) (c:Pl.Cp) (a b e q:Option Addr) (ca cb ce cq:Nat) (ha:IRow w a (Pl.mkC c 1).r.xs) (hb:IRow w b (Pl.mkC c 1).r.ys) (he:IRow w e (Pl.mkC c 1).bx) (hq:IRow w q (Pl.mkC c 1).bl) (lx:c.r.xs.length≤400000) (ly:c.r.ys.length≤400000) (lb:c.bx.length≤2000000) (lm:c.bm≤2000000) :
  Calls prog 11 #[.agg (cpA c a b e q ca cb ce cq),iv 1] w fun r w'=>r=.returned (iv (Pl.mkN c 1))∧Kept 0 0 w w':=by
 have E:Hid (Pl.mkN c 1=1+(c.r.xs.length:Int)+(c.r.ys.length:Int)+(c.bx.length:Int)+5*(c.bm:Int)):=hide rfl
 have K0:=hide (kept_alloc w (.cells (cpA c a b e q ca cb ce cq) 38))
 have B0:=Blk.new w (cpA c a b e q ca cb ce cq) 38
 have HA:=hide (ha.keptS K0.out)
 have HB:=hide (hb.keptS K0.out)
 have HE:=hide (he.keptS K0.out)
 have HQ:=hide (hq.keptS K0.out)
 obtain ⟨X,hX⟩:∃X:World,w.alloc (.cells (cpA c a b e q ca cb ce cq) 38)=X:=⟨_,rfl⟩
 rw [hX] at K0 B0 HA HB HE HQ
 have HB0:=hide B0
 have i0:=B0.all
 clear B0 ha hb he hq
 go_enter func11,ntmps11
 go_wp2_with fail
 refine (heldRegs _ c.r.o c.r.p c.r.f c.r.m c.r.s c.r.t a b ca cb c.r.xs.length c.r.ys.length 1 HA.out HB.out (by omega) (by omega) (by decide) (by decide)).mono ?_
 rintro e9 w1 ⟨rfl,k⟩
 have K1:=hide (K0.out.trans k)
 have C0:=hide (HB0.out.kept0 k)
 have HE':=hide (HE.out.keptS k)
 have HQ':=hide (HQ.out.keptS k)
 clear k i0
 have i8:=C0.out.cell (i:=8) rfl
 have i9:=C0.out.cell (i:=9) rfl
 go_wp2_with fail
 refine (heldBus _ e q ce cq c.bx.length c.bm (1+(c.r.xs.length:Int)+(c.r.ys.length:Int)) HE'.out HQ'.out lb lm (by omega) (by omega)).mono ?_
 rintro e9 w2 ⟨rfl,k⟩
 have K2:=hide (K1.out.trans k)
 clear k
 go_wp2_with fail
 go_ret
 exact ⟨rI E.out.symm,K2.out⟩
theorem Blk.put8 {w:World} {b:Nat} {u0 u1 u2 u3 u4 u5 u6 u7 u8 u9 u10 u11 v0 v1 v2 v3 v4 v5 v6 v7:Value} {ty:TypeId} (h:Blk w b #[u0,u1,u2,u3,u4,u5,u6,u7,u8,u9,u10,u11] ty):Blk ((((((((w.setCell ⟨b,0,none⟩ v0).setCell ⟨b,1,none⟩ v1).setCell ⟨b,2,none⟩ v2).setCell ⟨b,3,none⟩ v3).setCell ⟨b,4,none⟩ v4).setCell ⟨b,5,none⟩ v5).setCell ⟨b,6,none⟩ v6).setCell ⟨b,7,none⟩ v7) b #[v0,v1,v2,v3,v4,v5,v6,v7,u8,u9,u10,u11] ty:=by
 have h0:Blk (w.setCell ⟨b,0,none⟩ v0) b #[v0,u1,u2,u3,u4,u5,u6,u7,u8,u9,u10,u11] ty:=h.set 0 v0
 have h1:Blk ((w.setCell ⟨b,0,none⟩ v0).setCell ⟨b,1,none⟩ v1) b #[v0,v1,u2,u3,u4,u5,u6,u7,u8,u9,u10,u11] ty:=h0.set 1 v1
 have h2:Blk (((w.setCell ⟨b,0,none⟩ v0).setCell ⟨b,1,none⟩ v1).setCell ⟨b,2,none⟩ v2) b #[v0,v1,v2,u3,u4,u5,u6,u7,u8,u9,u10,u11] ty:=h1.set 2 v2
 have h3:Blk ((((w.setCell ⟨b,0,none⟩ v0).setCell ⟨b,1,none⟩ v1).setCell ⟨b,2,none⟩ v2).setCell ⟨b,3,none⟩ v3) b #[v0,v1,v2,v3,u4,u5,u6,u7,u8,u9,u10,u11] ty:=h2.set 3 v3
 have h4:Blk (((((w.setCell ⟨b,0,none⟩ v0).setCell ⟨b,1,none⟩ v1).setCell ⟨b,2,none⟩ v2).setCell ⟨b,3,none⟩ v3).setCell ⟨b,4,none⟩ v4) b #[v0,v1,v2,v3,v4,u5,u6,u7,u8,u9,u10,u11] ty:=h3.set 4 v4
 have h5:Blk ((((((w.setCell ⟨b,0,none⟩ v0).setCell ⟨b,1,none⟩ v1).setCell ⟨b,2,none⟩ v2).setCell ⟨b,3,none⟩ v3).setCell ⟨b,4,none⟩ v4).setCell ⟨b,5,none⟩ v5) b #[v0,v1,v2,v3,v4,v5,u6,u7,u8,u9,u10,u11] ty:=h4.set 5 v5
 have h6:Blk (((((((w.setCell ⟨b,0,none⟩ v0).setCell ⟨b,1,none⟩ v1).setCell ⟨b,2,none⟩ v2).setCell ⟨b,3,none⟩ v3).setCell ⟨b,4,none⟩ v4).setCell ⟨b,5,none⟩ v5).setCell ⟨b,6,none⟩ v6) b #[v0,v1,v2,v3,v4,v5,v6,u7,u8,u9,u10,u11] ty:=h5.set 6 v6
 have h7:Blk ((((((((w.setCell ⟨b,0,none⟩ v0).setCell ⟨b,1,none⟩ v1).setCell ⟨b,2,none⟩ v2).setCell ⟨b,3,none⟩ v3).setCell ⟨b,4,none⟩ v4).setCell ⟨b,5,none⟩ v5).setCell ⟨b,6,none⟩ v6).setCell ⟨b,7,none⟩ v7) b #[v0,v1,v2,v3,v4,v5,v6,v7,u8,u9,u10,u11] ty:=h6.set 7 v7
 exact h7
theorem Blk.put4 {w:World} {b:Nat} {u0 u1 u2 u3 u4 u5 u6 u7 u8 u9 u10 u11 v8 v9 v10 v11:Value} {ty:TypeId} (h:Blk w b #[u0,u1,u2,u3,u4,u5,u6,u7,u8,u9,u10,u11] ty):Blk ((((w.setCell ⟨b,8,none⟩ v8).setCell ⟨b,9,none⟩ v9).setCell ⟨b,10,none⟩ v10).setCell ⟨b,11,none⟩ v11) b #[u0,u1,u2,u3,u4,u5,u6,u7,v8,v9,v10,v11] ty:=by
 have h0:Blk (w.setCell ⟨b,8,none⟩ v8) b #[u0,u1,u2,u3,u4,u5,u6,u7,v8,u9,u10,u11] ty:=h.set 8 v8
 have h1:Blk ((w.setCell ⟨b,8,none⟩ v8).setCell ⟨b,9,none⟩ v9) b #[u0,u1,u2,u3,u4,u5,u6,u7,v8,v9,u10,u11] ty:=h0.set 9 v9
 have h2:Blk (((w.setCell ⟨b,8,none⟩ v8).setCell ⟨b,9,none⟩ v9).setCell ⟨b,10,none⟩ v10) b #[u0,u1,u2,u3,u4,u5,u6,u7,v8,v9,v10,u11] ty:=h1.set 10 v10
 have h3:Blk ((((w.setCell ⟨b,8,none⟩ v8).setCell ⟨b,9,none⟩ v9).setCell ⟨b,10,none⟩ v10).setCell ⟨b,11,none⟩ v11) b #[u0,u1,u2,u3,u4,u5,u6,u7,v8,v9,v10,v11] ty:=h2.set 11 v11
 exact h3
theorem toCpu (w:World) (c:Pl.Cp) (a b e q:Option Addr) (ca cb ce cq:Nat) (ha:IRow w a c.r.xs) (hb:IRow w b c.r.ys) (he:IRow w e c.bx) (hq:IRow w q c.bl) (lx:c.r.xs.length≤2000000) (ly:c.r.ys.length≤2000000) (lb:c.bx.length≤2000000) (ll:c.bl.length=5*c.bm) (lm:c.bm≤2000000) :
  Calls prog 6 #[.agg (cpA c a b e q ca cb ce cq)] w fun r w'=>∃g1 g2 g3 g4:Nat,r=.returned (.agg (cpA c (some ⟨g1,0,none⟩) (some ⟨g2,0,none⟩) (some ⟨g3,0,none⟩) (some ⟨g4,0,none⟩) c.r.xs.length c.r.ys.length c.bx.length c.bm))∧CpSl w' w.heap.size w'.heap.size c (some ⟨g1,0,none⟩) (some ⟨g2,0,none⟩) (some ⟨g3,0,none⟩) (some ⟨g4,0,none⟩)∧Kept 0 0 w w':=by
 have k0:Kept 0 0 w (((w.alloc (.cells (cpA c a b e q ca cb ce cq) 29)).alloc (.cells cpZ 38)).alloc (.cells cpZ 38)):=kept_new (kept_new (kept_alloc _ _) _) _
 have BA:=((Blk.new w (cpA c a b e q ca cb ce cq) 29).alloc (.cells cpZ 38)).alloc (.cells cpZ 38)
 have BR:=(Blk.new (w.alloc (.cells (cpA c a b e q ca cb ce cq) 29)) cpZ 38).alloc (.cells cpZ 38)
 have BO:=Blk.new ((w.alloc (.cells (cpA c a b e q ca cb ce cq) 29)).alloc (.cells cpZ 38)) cpZ 38
 simp only [World.size_alloc] at BR BO
 obtain ⟨X,hX⟩:∃X:World,(((w.alloc (.cells (cpA c a b e q ca cb ce cq) 29)).alloc (.cells cpZ 38)).alloc (.cells cpZ 38))=X:=⟨_,rfl⟩
 rw [hX] at k0 BA BR BO
 have n0:=BO.lt
 have K0:=hide k0
 have HBA:=hide BA
 have HBR:=hide BR
 have HBO:=hide BO
 have HA:=hide (ha.keptS k0)
 have HB:=hide (hb.keptS k0)
 have HE:=hide he
 have HQ:=hide hq
 have HL:=hide ll
 have i0:=BA.all
 clear k0 BA BR BO ha hb he hq ll
 go_enter func6,ntmps6
 go_wp2_with fail
 refine (toRegs _ c.r.o c.r.p c.r.f c.r.m c.r.s c.r.t a b ca cb c.r.xs c.r.ys HA.out HB.out lx ly).mono ?_
 rintro e9 w1 ⟨g1,g2,rfl,o1,o2,l1,l2,l3,k⟩
 have HA1:=hide (HBA.out.kept0 k)
 have HR1:=hide (HBR.out.kept0 k)
 have HO1:=hide (HBO.out.kept0 k)
 have K1:=hide (K0.out.trans k)
 have k1s:=k.size
 have OW1:=hide o1
 have OW2:=hide o2
 clear k o1 o2 i0
 have o0:=HO1.out.cell (i:=0) rfl
 have o1:=HO1.out.cell (i:=1) rfl
 have o2:=HO1.out.cell (i:=2) rfl
 have o3:=HO1.out.cell (i:=3) rfl
 have o4:=HO1.out.cell (i:=4) rfl
 have o5:=HO1.out.cell (i:=5) rfl
 have o6:=HO1.out.cell (i:=6) rfl
 have o7:=HO1.out.cell (i:=7) rfl
 have of0:=HO1.out.fz
 have K2:Kept 0 0 w ((((((((w1.setCell ⟨w.heap.size+2,0,none⟩ (.slice (some ⟨g1,0,none⟩) c.r.xs.length c.r.xs.length)).setCell ⟨w.heap.size+2,1,none⟩ (.slice (some ⟨g2,0,none⟩) c.r.ys.length c.r.ys.length)).setCell ⟨w.heap.size+2,2,none⟩ (iv c.r.o)).setCell ⟨w.heap.size+2,3,none⟩ (iv c.r.p)).setCell ⟨w.heap.size+2,4,none⟩ (iv c.r.f)).setCell ⟨w.heap.size+2,5,none⟩ (iv c.r.m)).setCell ⟨w.heap.size+2,6,none⟩ (.bool c.r.s)).setCell ⟨w.heap.size+2,7,none⟩ (.bool c.r.t)):=(kept_set (kept_set (kept_set (kept_set (kept_set (kept_set (kept_set (kept_set K1.out _ _ _ (.inr (by omega))) _ _ _ (.inr (by omega))) _ _ _ (.inr (by omega))) _ _ _ (.inr (by omega))) _ _ _ (.inr (by omega))) _ _ _ (.inr (by omega))) _ _ _ (.inr (by omega))) _ _ _ (.inr (by omega)))
 have HO2:Blk ((((((((w1.setCell ⟨w.heap.size+2,0,none⟩ (.slice (some ⟨g1,0,none⟩) c.r.xs.length c.r.xs.length)).setCell ⟨w.heap.size+2,1,none⟩ (.slice (some ⟨g2,0,none⟩) c.r.ys.length c.r.ys.length)).setCell ⟨w.heap.size+2,2,none⟩ (iv c.r.o)).setCell ⟨w.heap.size+2,3,none⟩ (iv c.r.p)).setCell ⟨w.heap.size+2,4,none⟩ (iv c.r.f)).setCell ⟨w.heap.size+2,5,none⟩ (iv c.r.m)).setCell ⟨w.heap.size+2,6,none⟩ (.bool c.r.s)).setCell ⟨w.heap.size+2,7,none⟩ (.bool c.r.t)) (w.heap.size+2) #[.slice (some ⟨g1,0,none⟩) c.r.xs.length c.r.xs.length,.slice (some ⟨g2,0,none⟩) c.r.ys.length c.r.ys.length,iv c.r.o,iv c.r.p,iv c.r.f,iv c.r.m,.bool c.r.s,.bool c.r.t,.slice none 0 0,.slice none 0 0,.bool false,.bool false] 38:=Blk.put8 HO1.out
 have HA2:Blk ((((((((w1.setCell ⟨w.heap.size+2,0,none⟩ (.slice (some ⟨g1,0,none⟩) c.r.xs.length c.r.xs.length)).setCell ⟨w.heap.size+2,1,none⟩ (.slice (some ⟨g2,0,none⟩) c.r.ys.length c.r.ys.length)).setCell ⟨w.heap.size+2,2,none⟩ (iv c.r.o)).setCell ⟨w.heap.size+2,3,none⟩ (iv c.r.p)).setCell ⟨w.heap.size+2,4,none⟩ (iv c.r.f)).setCell ⟨w.heap.size+2,5,none⟩ (iv c.r.m)).setCell ⟨w.heap.size+2,6,none⟩ (.bool c.r.s)).setCell ⟨w.heap.size+2,7,none⟩ (.bool c.r.t)) w.heap.size (cpA c a b e q ca cb ce cq) 29:=((((((((HA1.out.other _ _ _ (by omega)).other _ _ _ (by omega)).other _ _ _ (by omega)).other _ _ _ (by omega)).other _ _ _ (by omega)).other _ _ _ (by omega)).other _ _ _ (by omega)).other _ _ _ (by omega))
 have HR2:Blk ((((((((w1.setCell ⟨w.heap.size+2,0,none⟩ (.slice (some ⟨g1,0,none⟩) c.r.xs.length c.r.xs.length)).setCell ⟨w.heap.size+2,1,none⟩ (.slice (some ⟨g2,0,none⟩) c.r.ys.length c.r.ys.length)).setCell ⟨w.heap.size+2,2,none⟩ (iv c.r.o)).setCell ⟨w.heap.size+2,3,none⟩ (iv c.r.p)).setCell ⟨w.heap.size+2,4,none⟩ (iv c.r.f)).setCell ⟨w.heap.size+2,5,none⟩ (iv c.r.m)).setCell ⟨w.heap.size+2,6,none⟩ (.bool c.r.s)).setCell ⟨w.heap.size+2,7,none⟩ (.bool c.r.t)) (w.heap.size+1) cpZ 38:=((((((((HR1.out.other _ _ _ (by omega)).other _ _ _ (by omega)).other _ _ _ (by omega)).other _ _ _ (by omega)).other _ _ _ (by omega)).other _ _ _ (by omega)).other _ _ _ (by omega)).other _ _ _ (by omega))
 have P1:Own ((((((((w1.setCell ⟨w.heap.size+2,0,none⟩ (.slice (some ⟨g1,0,none⟩) c.r.xs.length c.r.xs.length)).setCell ⟨w.heap.size+2,1,none⟩ (.slice (some ⟨g2,0,none⟩) c.r.ys.length c.r.ys.length)).setCell ⟨w.heap.size+2,2,none⟩ (iv c.r.o)).setCell ⟨w.heap.size+2,3,none⟩ (iv c.r.p)).setCell ⟨w.heap.size+2,4,none⟩ (iv c.r.f)).setCell ⟨w.heap.size+2,5,none⟩ (iv c.r.m)).setCell ⟨w.heap.size+2,6,none⟩ (.bool c.r.s)).setCell ⟨w.heap.size+2,7,none⟩ (.bool c.r.t)) g1 c.r.xs:=((((((((OW1.out.setOther _ _ _ (by omega)).setOther _ _ _ (by omega)).setOther _ _ _ (by omega)).setOther _ _ _ (by omega)).setOther _ _ _ (by omega)).setOther _ _ _ (by omega)).setOther _ _ _ (by omega)).setOther _ _ _ (by omega))
 have P2:Own ((((((((w1.setCell ⟨w.heap.size+2,0,none⟩ (.slice (some ⟨g1,0,none⟩) c.r.xs.length c.r.xs.length)).setCell ⟨w.heap.size+2,1,none⟩ (.slice (some ⟨g2,0,none⟩) c.r.ys.length c.r.ys.length)).setCell ⟨w.heap.size+2,2,none⟩ (iv c.r.o)).setCell ⟨w.heap.size+2,3,none⟩ (iv c.r.p)).setCell ⟨w.heap.size+2,4,none⟩ (iv c.r.f)).setCell ⟨w.heap.size+2,5,none⟩ (iv c.r.m)).setCell ⟨w.heap.size+2,6,none⟩ (.bool c.r.s)).setCell ⟨w.heap.size+2,7,none⟩ (.bool c.r.t)) g2 c.r.ys:=((((((((OW2.out.setOther _ _ _ (by omega)).setOther _ _ _ (by omega)).setOther _ _ _ (by omega)).setOther _ _ _ (by omega)).setOther _ _ _ (by omega)).setOther _ _ _ (by omega)).setOther _ _ _ (by omega)).setOther _ _ _ (by omega))
 have szY:((((((((w1.setCell ⟨w.heap.size+2,0,none⟩ (.slice (some ⟨g1,0,none⟩) c.r.xs.length c.r.xs.length)).setCell ⟨w.heap.size+2,1,none⟩ (.slice (some ⟨g2,0,none⟩) c.r.ys.length c.r.ys.length)).setCell ⟨w.heap.size+2,2,none⟩ (iv c.r.o)).setCell ⟨w.heap.size+2,3,none⟩ (iv c.r.p)).setCell ⟨w.heap.size+2,4,none⟩ (iv c.r.f)).setCell ⟨w.heap.size+2,5,none⟩ (iv c.r.m)).setCell ⟨w.heap.size+2,6,none⟩ (.bool c.r.s)).setCell ⟨w.heap.size+2,7,none⟩ (.bool c.r.t)).heap.size=w1.heap.size:=by simp [World.setCell]
 obtain ⟨Y,hY⟩:∃Y:World,((((((((w1.setCell ⟨w.heap.size+2,0,none⟩ (.slice (some ⟨g1,0,none⟩) c.r.xs.length c.r.xs.length)).setCell ⟨w.heap.size+2,1,none⟩ (.slice (some ⟨g2,0,none⟩) c.r.ys.length c.r.ys.length)).setCell ⟨w.heap.size+2,2,none⟩ (iv c.r.o)).setCell ⟨w.heap.size+2,3,none⟩ (iv c.r.p)).setCell ⟨w.heap.size+2,4,none⟩ (iv c.r.f)).setCell ⟨w.heap.size+2,5,none⟩ (iv c.r.m)).setCell ⟨w.heap.size+2,6,none⟩ (.bool c.r.s)).setCell ⟨w.heap.size+2,7,none⟩ (.bool c.r.t))=Y:=⟨_,rfl⟩
 rw [hY] at K2 HO2 HA2 HR2 P1 P2 szY
 replace K2:=hide K2
 replace HO2:=hide HO2
 replace HA2:=hide HA2
 replace HR2:=hide HR2
 replace P1:=hide P1
 replace P2:=hide P2
 have i8:=HA2.out.cell (i:=8) rfl
 have i9:=HA2.out.cell (i:=9) rfl
 go_wp2_with fail
 clear hX hY o0 of0 o1 o2 o3 o4 o5 o6 o7
 refine (toBus _ e q ce cq c.bm c.bx c.bl (HE.out.keptS K2.out) (HQ.out.keptS K2.out) lb HL.out lm).mono ?_
 rintro e9 w2 ⟨g3,g4,rfl,o3,o4,l4,l5,l6,k⟩
 have EA:=hide (HA2.out.kept0 k)
 have ER:=hide (HR2.out.kept0 k)
 have EO:=hide (HO2.out.kept0 k)
 have K3:=hide (K2.out.trans k)
 have k3s:=k.size
 have P3:=hide (P1.out.keptS k (by omega))
 have P4:=hide (P2.out.keptS k (by omega))
 have P5:=hide o3
 have P6:=hide o4
 clear k o3 o4
 have o8:=EO.out.all
 have of8:=EO.out.fz
 have i10:=EA.out.cell (i:=10) rfl
 have i11:=EA.out.cell (i:=11) rfl
 have K4:Kept 0 0 w ((((w2.setCell ⟨w.heap.size+2,8,none⟩ (.slice (some ⟨g3,0,none⟩) c.bx.length c.bx.length)).setCell ⟨w.heap.size+2,9,none⟩ (.slice (some ⟨g4,0,none⟩) c.bm c.bm)).setCell ⟨w.heap.size+2,10,none⟩ (.bool c.st)).setCell ⟨w.heap.size+2,11,none⟩ (.bool c.ha)):=(kept_set (kept_set (kept_set (kept_set K3.out _ _ _ (.inr (by omega))) _ _ _ (.inr (by omega))) _ _ _ (.inr (by omega))) _ _ _ (.inr (by omega)))
 have FO:Blk ((((w2.setCell ⟨w.heap.size+2,8,none⟩ (.slice (some ⟨g3,0,none⟩) c.bx.length c.bx.length)).setCell ⟨w.heap.size+2,9,none⟩ (.slice (some ⟨g4,0,none⟩) c.bm c.bm)).setCell ⟨w.heap.size+2,10,none⟩ (.bool c.st)).setCell ⟨w.heap.size+2,11,none⟩ (.bool c.ha)) (w.heap.size+2) (cpA c (some ⟨g1,0,none⟩) (some ⟨g2,0,none⟩) (some ⟨g3,0,none⟩) (some ⟨g4,0,none⟩) c.r.xs.length c.r.ys.length c.bx.length c.bm) 38:=Blk.put4 EO.out
 have FR:Blk ((((w2.setCell ⟨w.heap.size+2,8,none⟩ (.slice (some ⟨g3,0,none⟩) c.bx.length c.bx.length)).setCell ⟨w.heap.size+2,9,none⟩ (.slice (some ⟨g4,0,none⟩) c.bm c.bm)).setCell ⟨w.heap.size+2,10,none⟩ (.bool c.st)).setCell ⟨w.heap.size+2,11,none⟩ (.bool c.ha)) (w.heap.size+1) cpZ 38:=((((ER.out.other _ _ _ (by omega)).other _ _ _ (by omega)).other _ _ _ (by omega)).other _ _ _ (by omega))
 have Q1:Own ((((w2.setCell ⟨w.heap.size+2,8,none⟩ (.slice (some ⟨g3,0,none⟩) c.bx.length c.bx.length)).setCell ⟨w.heap.size+2,9,none⟩ (.slice (some ⟨g4,0,none⟩) c.bm c.bm)).setCell ⟨w.heap.size+2,10,none⟩ (.bool c.st)).setCell ⟨w.heap.size+2,11,none⟩ (.bool c.ha)) g1 c.r.xs:=((((P3.out.setOther _ _ _ (by omega)).setOther _ _ _ (by omega)).setOther _ _ _ (by omega)).setOther _ _ _ (by omega))
 have Q2:Own ((((w2.setCell ⟨w.heap.size+2,8,none⟩ (.slice (some ⟨g3,0,none⟩) c.bx.length c.bx.length)).setCell ⟨w.heap.size+2,9,none⟩ (.slice (some ⟨g4,0,none⟩) c.bm c.bm)).setCell ⟨w.heap.size+2,10,none⟩ (.bool c.st)).setCell ⟨w.heap.size+2,11,none⟩ (.bool c.ha)) g2 c.r.ys:=((((P4.out.setOther _ _ _ (by omega)).setOther _ _ _ (by omega)).setOther _ _ _ (by omega)).setOther _ _ _ (by omega))
 have Q3:Own ((((w2.setCell ⟨w.heap.size+2,8,none⟩ (.slice (some ⟨g3,0,none⟩) c.bx.length c.bx.length)).setCell ⟨w.heap.size+2,9,none⟩ (.slice (some ⟨g4,0,none⟩) c.bm c.bm)).setCell ⟨w.heap.size+2,10,none⟩ (.bool c.st)).setCell ⟨w.heap.size+2,11,none⟩ (.bool c.ha)) g3 c.bx:=((((P5.out.setOther _ _ _ (by omega)).setOther _ _ _ (by omega)).setOther _ _ _ (by omega)).setOther _ _ _ (by omega))
 have Q4:Own ((((w2.setCell ⟨w.heap.size+2,8,none⟩ (.slice (some ⟨g3,0,none⟩) c.bx.length c.bx.length)).setCell ⟨w.heap.size+2,9,none⟩ (.slice (some ⟨g4,0,none⟩) c.bm c.bm)).setCell ⟨w.heap.size+2,10,none⟩ (.bool c.st)).setCell ⟨w.heap.size+2,11,none⟩ (.bool c.ha)) g4 c.bl:=((((P6.out.setOther _ _ _ (by omega)).setOther _ _ _ (by omega)).setOther _ _ _ (by omega)).setOther _ _ _ (by omega))
 have szV:((((w2.setCell ⟨w.heap.size+2,8,none⟩ (.slice (some ⟨g3,0,none⟩) c.bx.length c.bx.length)).setCell ⟨w.heap.size+2,9,none⟩ (.slice (some ⟨g4,0,none⟩) c.bm c.bm)).setCell ⟨w.heap.size+2,10,none⟩ (.bool c.st)).setCell ⟨w.heap.size+2,11,none⟩ (.bool c.ha)).heap.size=w2.heap.size:=by simp [World.setCell]
 obtain ⟨V,hV⟩:∃V:World,((((w2.setCell ⟨w.heap.size+2,8,none⟩ (.slice (some ⟨g3,0,none⟩) c.bx.length c.bx.length)).setCell ⟨w.heap.size+2,9,none⟩ (.slice (some ⟨g4,0,none⟩) c.bm c.bm)).setCell ⟨w.heap.size+2,10,none⟩ (.bool c.st)).setCell ⟨w.heap.size+2,11,none⟩ (.bool c.ha))=V:=⟨_,rfl⟩
 rw [hV] at K4 FO FR Q1 Q2 Q3 Q4 szV
 replace K4:=hide K4
 replace FO:=hide FO
 replace FR:=hide FR
 replace Q1:=hide Q1
 replace Q2:=hide Q2
 replace Q3:=hide Q3
 replace Q4:=hide Q4
 have m0:=FO.out.all
 have r0:=FR.out.all
 have rf0:=FR.out.fz
 go_wp2_with fail
 clear hV
 have FF:Blk ((((((((((((V.setCell ⟨w.heap.size+1,0,none⟩ (.slice (some ⟨g1,0,none⟩) c.r.xs.length c.r.xs.length)).setCell ⟨w.heap.size+1,1,none⟩ (.slice (some ⟨g2,0,none⟩) c.r.ys.length c.r.ys.length)).setCell ⟨w.heap.size+1,2,none⟩ (iv c.r.o)).setCell ⟨w.heap.size+1,3,none⟩ (iv c.r.p)).setCell ⟨w.heap.size+1,4,none⟩ (iv c.r.f)).setCell ⟨w.heap.size+1,5,none⟩ (iv c.r.m)).setCell ⟨w.heap.size+1,6,none⟩ (.bool c.r.s)).setCell ⟨w.heap.size+1,7,none⟩ (.bool c.r.t)).setCell ⟨w.heap.size+1,8,none⟩ (.slice (some ⟨g3,0,none⟩) c.bx.length c.bx.length)).setCell ⟨w.heap.size+1,9,none⟩ (.slice (some ⟨g4,0,none⟩) c.bm c.bm)).setCell ⟨w.heap.size+1,10,none⟩ (.bool c.st)).setCell ⟨w.heap.size+1,11,none⟩ (.bool c.ha)) (w.heap.size+1) (cpA c (some ⟨g1,0,none⟩) (some ⟨g2,0,none⟩) (some ⟨g3,0,none⟩) (some ⟨g4,0,none⟩) c.r.xs.length c.r.ys.length c.bx.length c.bm) 38:=Blk.put4 (Blk.put8 FR.out)
 refine bodyPost_ret (v:=.agg (cpA c (some ⟨g1,0,none⟩) (some ⟨g2,0,none⟩) (some ⟨g3,0,none⟩) (some ⟨g4,0,none⟩) c.r.xs.length c.r.ys.length c.bx.length c.bm)) ?_ rfl ⟨g1,g2,g3,g4,rfl,⟨.inr ⟨g1,rfl,by omega,?_,?_⟩,.inr ⟨g2,rfl,by omega,?_,?_⟩,.inr ⟨g3,rfl,by omega,?_,?_⟩,.inr ⟨g4,rfl,by omega,?_,?_⟩,?_,?_,?_,?_,?_,?_⟩,?_⟩
 ·exact results_cell_row rfl _ _ _ _ _ (0,0) _ rfl FF underlying38 rfl (by kernel_rfl)
 ·simp [World.setCell];omega
 ·exact ((((((((((((Q1.out.setOther _ _ _ (by omega)).setOther _ _ _ (by omega)).setOther _ _ _ (by omega)).setOther _ _ _ (by omega)).setOther _ _ _ (by omega)).setOther _ _ _ (by omega)).setOther _ _ _ (by omega)).setOther _ _ _ (by omega)).setOther _ _ _ (by omega)).setOther _ _ _ (by omega)).setOther _ _ _ (by omega)).setOther _ _ _ (by omega))
 ·simp [World.setCell];omega
 ·exact ((((((((((((Q2.out.setOther _ _ _ (by omega)).setOther _ _ _ (by omega)).setOther _ _ _ (by omega)).setOther _ _ _ (by omega)).setOther _ _ _ (by omega)).setOther _ _ _ (by omega)).setOther _ _ _ (by omega)).setOther _ _ _ (by omega)).setOther _ _ _ (by omega)).setOther _ _ _ (by omega)).setOther _ _ _ (by omega)).setOther _ _ _ (by omega))
 ·simp [World.setCell];omega
 ·exact ((((((((((((Q3.out.setOther _ _ _ (by omega)).setOther _ _ _ (by omega)).setOther _ _ _ (by omega)).setOther _ _ _ (by omega)).setOther _ _ _ (by omega)).setOther _ _ _ (by omega)).setOther _ _ _ (by omega)).setOther _ _ _ (by omega)).setOther _ _ _ (by omega)).setOther _ _ _ (by omega)).setOther _ _ _ (by omega)).setOther _ _ _ (by omega))
 ·simp [World.setCell];omega
 ·exact ((((((((((((Q4.out.setOther _ _ _ (by omega)).setOther _ _ _ (by omega)).setOther _ _ _ (by omega)).setOther _ _ _ (by omega)).setOther _ _ _ (by omega)).setOther _ _ _ (by omega)).setOther _ _ _ (by omega)).setOther _ _ _ (by omega)).setOther _ _ _ (by omega)).setOther _ _ _ (by omega)).setOther _ _ _ (by omega)).setOther _ _ _ (by omega))
 ·intro g h1 h2;simp [blk] at h1 h2;omega
 ·intro g h1 h2;simp [blk] at h1 h2;omega
 ·intro g h1 h2;simp [blk] at h1 h2;omega
 ·intro g h1 h2;simp [blk] at h1 h2;omega
 ·intro g h1 h2;simp [blk] at h1 h2;omega
 ·intro g h1 h2;simp [blk] at h1 h2;omega
 ·exact (kept_set (kept_set (kept_set (kept_set (kept_set (kept_set (kept_set (kept_set (kept_set (kept_set (kept_set (kept_set K4.out _ _ _ (.inr (by omega))) _ _ _ (.inr (by omega))) _ _ _ (.inr (by omega))) _ _ _ (.inr (by omega))) _ _ _ (.inr (by omega))) _ _ _ (.inr (by omega))) _ _ _ (.inr (by omega))) _ _ _ (.inr (by omega))) _ _ _ (.inr (by omega))) _ _ _ (.inr (by omega))) _ _ _ (.inr (by omega))) _ _ _ (.inr (by omega)))
end Go.Proofs.YtkkmnnhaailkcaaGreat
namespace Go.Proofs.YtkkmnnhaailkcaaGreat.Pl
set_option linter.unusedVariables false
def ftLong (v:Int):Bool:=v==2||v==3
def ftOk (f:Ft):Bool:=within f.v 2 21&&(wordOk f.pc&&(wordOk f.ad&&(wordOk f.wo&&(ftLong f.v||(f.ad==0 && !f.wr)))))
def ftInfo (s:Bool) (f:Ft):Int:=fl1 f.wr 1+fl1 s 2
def ftRow (r:Rg) (f:Ft):List Int:=if ftLong f.v then [f.pc,status r,f.wo,f.ad,ftInfo r.s f] else [f.pc,status r]
structure WfF (f:Ft):Prop where
 p0 : -9223372036854775808≤f.pc
 p1:f.pc≤9223372036854775807
 a0 : -9223372036854775808≤f.ad
 a1:f.ad≤9223372036854775807
 w0 : -9223372036854775808≤f.wo
 w1:f.wo≤9223372036854775807
theorem wordOk_iff {n:Int}:wordOk n=true↔0≤n∧n≤65535:=by simp [wordOk,within]
theorem ft_ok {f:Ft} (h:ftOk f=true):(2≤f.v∧f.v≤21)∧(0≤f.pc∧f.pc≤65535)∧(0≤f.ad∧f.ad≤65535)∧(0≤f.wo∧f.wo≤65535)∧(ftLong f.v=true∨f.ad=0∧f.wr=false):=by
 simp only [ftOk,Bool.and_eq_true,wordOk_iff,Bool.or_eq_true,beq_iff_eq,Bool.not_eq_true'] at h
 obtain ⟨h1,h2,h3,h4,h5⟩:=h
 simp only [within,Bool.and_eq_true,decide_eq_true_eq] at h1
 exact ⟨h1,h2,h3,h4,h5⟩
theorem ft_ways (f:Ft):f.v<2∨(2≤f.v∧21<f.v)∨(2≤f.v∧f.v≤21)∧(wordOk f.pc=false∨wordOk f.pc=true∧(wordOk f.ad=false∨wordOk f.ad=true∧(wordOk f.wo=false∨wordOk f.wo=true∧(ftLong f.v=true∨ftLong f.v=false∧((f.ad==0)=false∨(f.ad==0)=true))))):=by
 by_cases h1:f.v<2
 ·exact .inl h1
 ·by_cases h2:21<f.v
  ·exact .inr (.inl ⟨by omega,h2⟩)
  ·refine .inr (.inr ⟨⟨by omega,by omega⟩,?_⟩)
   cases wordOk f.pc<;>cases wordOk f.ad<;>cases wordOk f.wo<;>cases ftLong f.v<;>by_cases f.ad=0<;>simp_all
end Go.Proofs.YtkkmnnhaailkcaaGreat.Pl
namespace Go.Proofs.YtkkmnnhaailkcaaGreat
open Go.RowKit Go.Proofs.Tryz
set_option linter.unusedVariables false
theorem toFault (f:Pl.Ft) (w:World):Calls prog 7 #[.agg (ftA f)] w fun e w'=>e=.returned (.agg (ftA f))∧Kept 0 0 w w':=by
 go_enter func7,ntmps7
 go_wp2
 refine bodyPost_ret (v:=.agg (ftA f)) ?_ rfl ⟨rfl,kept_new (kept_new (kept_alloc _ _) _) _⟩
 rw [results_one rfl];go_simp
structure Pl.WfR (d:Pl.Rg):Prop where
 o:(Lit.int .i64 d.o).wf=true
 p:(Lit.int .i64 d.p).wf=true
 f:(Lit.int .i64 d.f).wf=true
 m:(Lit.int .i64 d.m).wf=true
theorem specWord (n:Int) (w:World):Calls prog 35 #[iv n] w fun e w'=>e=.returned (.bool (Pl.wordOk n))∧w'=w:=by
 go_enter func35,ntmps35
 go_wp2_with (go_at_call 34;refine (l1In _ _ _ _).mono ?_;rintro e w' ⟨rfl,hw⟩;have hw2:=hw.symm;clear hw;subst hw2)
 go_ret
 exact ⟨rfl,rfl⟩
theorem specFlags (n:Int) (w:World):Calls prog 68 #[iv n] w fun e w'=>e=.returned (.bool (Pl.within n 0 31))∧w'=w:=by
 go_enter func68,ntmps68
 go_wp2_with (go_at_call 34;refine (l1In _ _ _ _).mono ?_;rintro e w' ⟨rfl,hw⟩;have hw2:=hw.symm;clear hw;subst hw2)
 go_ret
 exact ⟨rfl,rfl⟩
theorem specFour (w:World) (a:Option Addr) (ca:Nat) (xs:List Int) (ha:IRow w a xs) (lx:xs.length≤2000000) :
  Calls prog 67 #[.slice a xs.length ca] w fun e w'=>e=.returned (.bool (Pl.fourOk xs))∧w'=w:=by
 have HA:=hide ha
 clear ha
 go_enter func67,ntmps67
 go_wp2
 go_loop [4,7] (fun _ j=>∃k:Nat,k≤xs.length∧j=iv k∧∀i,i<k→Pl.wordOk (el xs i)=true) (fun _ j=>xs.length-(intOf j).toNat)
 case atStart=>exact ⟨0,Nat.zero_le _,rfl,fun i hi=>absurd hi (Nat.not_lt_zero i)⟩
 case round=>
  obtain ⟨k,hk,rfl,heq⟩:=hrel
  have HE:=hide heq
  clear heq
  by_cases hlt:k<xs.length
  ·obtain ⟨g1,o1,rfl,hc1⟩:=HA.out k hlt
   rw [show xs[k]?.getD 0=el xs k from rfl] at hc1
   cases hb:Pl.wordOk (el xs k)
   ·go_wp2_with (go_at_call 35;refine (specWord _ _).mono ?_;rintro e w' ⟨rfl,rfl⟩;rw [hb])
    go_ret
    exact ⟨rB (Pl.all_no hlt hb).symm,rfl⟩
   ·go_wp2_with (go_at_call 35;refine (specWord _ _).mono ?_;rintro e w' ⟨rfl,rfl⟩;rw [hb])
    go_round
    case rel=>exact ⟨k+1,by omega,by go_num,snoc_all HE.out hb⟩
    case measure=>simp [intOf];omega
  ·have E:Hid (Pl.fourOk xs=decide ((xs.length:Int)=4)):=hide (Pl.all_of (fun i hi=>HE.out i (by omega)))
   cases h4:((xs.length:Int)==4)
   all_goals
    go_wp2
    go_ret
    exact ⟨rB (by rw [E.out];simp at h4;simp [h4]),rfl⟩
theorem specGoodRegs (w:World) (r:Pl.Rg) (a b:Option Addr) (ca cb:Nat) (ha:IRow w a r.xs) (hb:IRow w b r.ys) (lx:r.xs.length≤2000000) (ly:r.ys.length≤2000000) :
  Calls prog 32 #[.agg #[.slice a r.xs.length ca,.slice b r.ys.length cb,iv r.o,iv r.p,iv r.f,iv r.m,.bool r.s,.bool r.t]] w fun e w'=>e=.returned (.bool (Pl.rgOk r))∧Kept 0 0 w w':=by
 have HA:=hide ha
 have HB:=hide hb
 have HK:=hide (kept_alloc w (.cells #[.slice a r.xs.length ca,.slice b r.ys.length cb,iv r.o,iv r.p,iv r.f,iv r.m,.bool r.s,.bool r.t] 33))
 clear ha hb
 have G:Hid (Pl.rgOk r=(Pl.fourOk r.xs&&(Pl.fourOk r.ys&&(Pl.wordOk r.o&&(Pl.wordOk r.p&&(Pl.within r.f 0 31&&Pl.within r.m 0 7)))))):=hide rfl
 cases h1:Pl.fourOk r.xs
 ·go_enter func32,ntmps32
  go_wp2_with (first|(go_at_call 67;refine (specFour _ a ca r.xs (HA.out.keptS HK.out) lx).mono ?_;rintro e w' ⟨rfl,hw⟩;have hw2:=hw.symm;clear hw;subst hw2;rw [h1];have Z1:True:=trivial))
  go_ret
  exact ⟨rB (by rw [G.out,h1];simp),HK.out⟩
 ·cases h2:Pl.fourOk r.ys
  ·go_enter func32,ntmps32
   go_wp2_with (first|(go_at_call 67;have z:=Z1;refine (specFour _ b cb r.ys (HB.out.keptS HK.out) ly).mono ?_;rintro e w' ⟨rfl,hw⟩;have hw2:=hw.symm;clear hw;subst hw2;rw [h2])|(go_at_call 67;refine (specFour _ a ca r.xs (HA.out.keptS HK.out) lx).mono ?_;rintro e w' ⟨rfl,hw⟩;have hw2:=hw.symm;clear hw;subst hw2;rw [h1];have Z1:True:=trivial))
   go_ret
   exact ⟨rB (by rw [G.out,h1,h2];simp),HK.out⟩
  ·cases h3:Pl.wordOk r.o
   ·go_enter func32,ntmps32
    go_wp2_with (first|(go_at_call 67;have z:=Z1;refine (specFour _ b cb r.ys (HB.out.keptS HK.out) ly).mono ?_;rintro e w' ⟨rfl,hw⟩;have hw2:=hw.symm;clear hw;subst hw2;rw [h2])|(go_at_call 67;refine (specFour _ a ca r.xs (HA.out.keptS HK.out) lx).mono ?_;rintro e w' ⟨rfl,hw⟩;have hw2:=hw.symm;clear hw;subst hw2;rw [h1];have Z1:True:=trivial)|(go_at_call 35;refine (specWord r.o _).mono ?_;rintro e w' ⟨rfl,hw⟩;have hw2:=hw.symm;clear hw;subst hw2;rw [h3];have Z3:True:=trivial))
    go_ret
    exact ⟨rB (by rw [G.out,h1,h2,h3];simp),HK.out⟩
   ·cases h4:Pl.wordOk r.p
    ·go_enter func32,ntmps32
     go_wp2_with (first|(go_at_call 67;have z:=Z1;refine (specFour _ b cb r.ys (HB.out.keptS HK.out) ly).mono ?_;rintro e w' ⟨rfl,hw⟩;have hw2:=hw.symm;clear hw;subst hw2;rw [h2])|(go_at_call 67;refine (specFour _ a ca r.xs (HA.out.keptS HK.out) lx).mono ?_;rintro e w' ⟨rfl,hw⟩;have hw2:=hw.symm;clear hw;subst hw2;rw [h1];have Z1:True:=trivial)|(go_at_call 35;have z:=Z3;refine (specWord r.p _).mono ?_;rintro e w' ⟨rfl,hw⟩;have hw2:=hw.symm;clear hw;subst hw2;rw [h4])|(go_at_call 35;refine (specWord r.o _).mono ?_;rintro e w' ⟨rfl,hw⟩;have hw2:=hw.symm;clear hw;subst hw2;rw [h3];have Z3:True:=trivial))
     go_ret
     exact ⟨rB (by rw [G.out,h1,h2,h3,h4];simp),HK.out⟩
    ·cases h5:Pl.within r.f 0 31
     ·go_enter func32,ntmps32
      go_wp2_with (first|(go_at_call 67;have z:=Z1;refine (specFour _ b cb r.ys (HB.out.keptS HK.out) ly).mono ?_;rintro e w' ⟨rfl,hw⟩;have hw2:=hw.symm;clear hw;subst hw2;rw [h2])|(go_at_call 67;refine (specFour _ a ca r.xs (HA.out.keptS HK.out) lx).mono ?_;rintro e w' ⟨rfl,hw⟩;have hw2:=hw.symm;clear hw;subst hw2;rw [h1];have Z1:True:=trivial)|(go_at_call 35;have z:=Z3;refine (specWord r.p _).mono ?_;rintro e w' ⟨rfl,hw⟩;have hw2:=hw.symm;clear hw;subst hw2;rw [h4])|(go_at_call 35;refine (specWord r.o _).mono ?_;rintro e w' ⟨rfl,hw⟩;have hw2:=hw.symm;clear hw;subst hw2;rw [h3];have Z3:True:=trivial)|(go_at_call 68;refine (specFlags _ _).mono ?_;rintro e w' ⟨rfl,hw⟩;have hw2:=hw.symm;clear hw;subst hw2;rw [h5]))
      go_ret
      exact ⟨rB (by rw [G.out,h1,h2,h3,h4,h5];simp),HK.out⟩
     ·cases h6:Pl.within r.m 0 7
      ·go_enter func32,ntmps32
       go_wp2_with (first|(go_at_call 67;have z:=Z1;refine (specFour _ b cb r.ys (HB.out.keptS HK.out) ly).mono ?_;rintro e w' ⟨rfl,hw⟩;have hw2:=hw.symm;clear hw;subst hw2;rw [h2])|(go_at_call 67;refine (specFour _ a ca r.xs (HA.out.keptS HK.out) lx).mono ?_;rintro e w' ⟨rfl,hw⟩;have hw2:=hw.symm;clear hw;subst hw2;rw [h1];have Z1:True:=trivial)|(go_at_call 35;have z:=Z3;refine (specWord r.p _).mono ?_;rintro e w' ⟨rfl,hw⟩;have hw2:=hw.symm;clear hw;subst hw2;rw [h4])|(go_at_call 35;refine (specWord r.o _).mono ?_;rintro e w' ⟨rfl,hw⟩;have hw2:=hw.symm;clear hw;subst hw2;rw [h3];have Z3:True:=trivial)|(go_at_call 68;refine (specFlags _ _).mono ?_;rintro e w' ⟨rfl,hw⟩;have hw2:=hw.symm;clear hw;subst hw2;rw [h5])|(go_at_call 34;refine (l1In _ _ _ _).mono ?_;rintro e w' ⟨rfl,hw⟩;have hw2:=hw.symm;clear hw;subst hw2;rw [show (decide (0≤r.m)&&decide (r.m≤7))=Pl.within r.m 0 7 from rfl,h6]))
       go_ret
       exact ⟨rB (by rw [G.out,h1,h2,h3,h4,h5,h6];simp),HK.out⟩
      ·go_enter func32,ntmps32
       go_wp2_with (first|(go_at_call 67;have z:=Z1;refine (specFour _ b cb r.ys (HB.out.keptS HK.out) ly).mono ?_;rintro e w' ⟨rfl,hw⟩;have hw2:=hw.symm;clear hw;subst hw2;rw [h2])|(go_at_call 67;refine (specFour _ a ca r.xs (HA.out.keptS HK.out) lx).mono ?_;rintro e w' ⟨rfl,hw⟩;have hw2:=hw.symm;clear hw;subst hw2;rw [h1];have Z1:True:=trivial)|(go_at_call 35;have z:=Z3;refine (specWord r.p _).mono ?_;rintro e w' ⟨rfl,hw⟩;have hw2:=hw.symm;clear hw;subst hw2;rw [h4])|(go_at_call 35;refine (specWord r.o _).mono ?_;rintro e w' ⟨rfl,hw⟩;have hw2:=hw.symm;clear hw;subst hw2;rw [h3];have Z3:True:=trivial)|(go_at_call 68;refine (specFlags _ _).mono ?_;rintro e w' ⟨rfl,hw⟩;have hw2:=hw.symm;clear hw;subst hw2;rw [h5])|(go_at_call 34;refine (l1In _ _ _ _).mono ?_;rintro e w' ⟨rfl,hw⟩;have hw2:=hw.symm;clear hw;subst hw2;rw [show (decide (0≤r.m)&&decide (r.m≤7))=Pl.within r.m 0 7 from rfl,h6]))
       go_ret
       exact ⟨rB (by rw [G.out,h1,h2,h3,h4,h5,h6];simp),HK.out⟩
theorem l1Flag6 (b:Bool) (f:Int) (w:World):Calls prog 94 #[.bool b,iv f] w fun e w'=>e=.returned (iv (Pl.fl1 b f))∧w'=w:=by
 cases b
 all_goals
  go_enter func94,ntmps94
  go_wp2
  go_ret
  exact ⟨rfl,rfl⟩
theorem l11Long (v:Int) (w:World):Calls prog 36 #[iv v] w fun e w'=>e=.returned (.bool (Pl.ftLong v))∧w'=w:=by
 have H:v=2∨¬v=2∧(v=3∨¬v=3):=by omega
 rcases H with rfl|⟨h2,rfl|h3⟩
 all_goals
  go_enter func36,ntmps36
  go_wp2
  go_ret
  exact ⟨rB (by simp [Pl.ftLong, *]),rfl⟩
theorem specGoodFault (f:Pl.Ft) (w:World):Calls prog 15 #[.agg (ftA f)] w fun e w'=>e=.returned (.bool (Pl.ftOk f))∧Kept 0 0 w w':=by
 have K0:=hide (kept_alloc w (.cells (ftA f) 42))
 have H:=Pl.ft_ways f
 rcases H with h1|⟨h1,h2⟩|⟨⟨h1,h2⟩,h3|⟨h3,h4|⟨h4,h5|⟨h5,h6|⟨h6,h7|h7⟩⟩⟩⟩⟩
 all_goals
  obtain ⟨z,hz⟩:∃z,z=(decide (2≤f.v)&&decide (f.v≤21)):=⟨_,rfl⟩
  have hz2:z=decide (2≤f.v∧f.v≤21):=by rw [hz];simp
  first|rw [decide_eq_true (show 2≤f.v∧f.v≤21 from ⟨h1,h2⟩)] at hz2|rw [decide_eq_false (show ¬(2≤f.v∧f.v≤21) by omega)] at hz2
  go_enter func15,ntmps15
  go_wp2_with (first|(go_at_call 34;refine (l1In _ _ _ _).mono ?_;rintro e w' ⟨rfl,rfl⟩;rw [←hz,hz2])|(go_at_call 35;have z:=Z2;refine (specWord f.wo _).mono ?_;rintro e w' ⟨rfl,rfl⟩;rw [h5])|(go_at_call 35;have z:=Z1;refine (specWord f.ad _).mono ?_;rintro e w' ⟨rfl,rfl⟩;rw [h4];have Z2:True:=trivial)|(go_at_call 35;refine (specWord f.pc _).mono ?_;rintro e w' ⟨rfl,rfl⟩;rw [h3];have Z1:True:=trivial)|(go_at_call 36;refine (l11Long _ _).mono ?_;rintro e w' ⟨rfl,rfl⟩;rw [h6]))
  go_ret
  refine ⟨rB ?_,K0.out⟩
  unfold Pl.ftOk Pl.within;rw [←hz,hz2];simp_all
theorem w64 {n:Int} (h0 : -9223372036854775808≤n) (h1:n≤9223372036854775807):IntKind.i64.wrap n=n:=by rw [IntKind.wrap_i64];omega
theorem fl1_in (b:Bool) (n:Int) (h:0≤n):0≤Pl.fl1 b n∧Pl.fl1 b n≤n:=by cases b<;>simp [Pl.fl1]<;>omega
theorem specStatus (w:World) (r:Pl.Rg) (a b:Option Addr) (ca cb:Nat) (hg:Pl.Good r) :
  Calls prog 72 #[.agg #[.slice a r.xs.length ca,.slice b r.ys.length cb,iv r.o,iv r.p,iv r.f,iv r.m,.bool r.s,.bool r.t]] w fun e w'=>e=.returned (iv (Pl.status r))∧Kept 0 0 w w':=by
 have HK:=hide (kept_alloc w (.cells #[.slice a r.xs.length ca,.slice b r.ys.length cb,iv r.o,iv r.p,iv r.f,iv r.m,.bool r.s,.bool r.t] 33))
 have f0:=hg.f0
 have f1:=hg.f1
 have m0:=hg.m0
 have m1:=hg.m1
 clear hg
 obtain ⟨s0,s1⟩:=fl1_in r.s 256 (by decide)
 obtain ⟨t0,t1⟩:=fl1_in r.t 512 (by decide)
 have e1:IntKind.i64.wrap (32*r.m)=32*r.m:=w64 (by omega) (by omega)
 have e2:IntKind.i64.wrap (r.f+32*r.m)=r.f+32*r.m:=w64 (by omega) (by omega)
 have e3:IntKind.i64.wrap (r.f+32*r.m+Pl.fl1 r.s 256)=r.f+32*r.m+Pl.fl1 r.s 256:=w64 (by omega) (by omega)
 have e4:IntKind.i64.wrap (r.f+32*r.m+Pl.fl1 r.s 256+Pl.fl1 r.t 512)=r.f+32*r.m+Pl.fl1 r.s 256+Pl.fl1 r.t 512:=w64 (by omega) (by omega)
 go_enter func72,ntmps72
 go_wp2_with fail
 go_quiet (first|(go_at_call 94;exact Calls.quiet_of_same (l1Flag6 _ _ _))|fail)
 go_wp2_with fail
 go_ret
 exact ⟨rI rfl,kept_drewN HK.out _⟩
theorem own2 {w:World} {g:Nat} {x y:Int} (h:Blk w g #[iv x,iv y] 3):w.ownsRow g 3 1 (.slice (some ⟨g,0,none⟩) 2 2) 2 [iv x,iv y]:=
 ⟨by simp,.inr ⟨g,2,#[iv x,iv y],rfl,Nat.le_refl _,h,Nat.le_refl _,by unfold maxLen;omega,by simp,by simp⟩⟩
theorem l11Info (s:Bool) (f:Pl.Ft) (w:World):Calls prog 73 #[.bool s,.agg (ftA f)] w fun e w'=>e=.returned (iv (Pl.ftInfo s f))∧Kept 0 0 w w':=by
 have K0:=hide (kept_alloc w (.cells (ftA f) 42))
 obtain ⟨v,pc,ad,wo,wr⟩:=f
 cases s<;>cases wr
 all_goals
  go_enter func73,ntmps73
  go_wp2_with (go_at_call 94;refine (l1Flag6 _ _ _).mono ?_;rintro e9 w9 ⟨rfl,hw⟩;have hw2:=hw.symm;clear hw;subst hw2;simp only [Pl.fl1,if_true,if_false,Bool.false_eq_true])
  go_ret
  exact ⟨rI (by unfold Pl.ftInfo Pl.fl1;simp only [if_true,if_false,Bool.false_eq_true];decide),K0.out⟩
theorem specFrame (w:World) (r:Pl.Rg) (f:Pl.Ft) (a b:Option Addr) (ca cb:Nat) (hg:Pl.Good r) :
  Calls prog 38 #[.agg #[.slice a r.xs.length ca,.slice b r.ys.length cb,iv r.o,iv r.p,iv r.f,iv r.m,.bool r.s,.bool r.t],.agg (ftA f)] w fun e w'=>∃(g c:Nat),e=.returned (.slice (some ⟨g,0,none⟩) (Pl.ftRow r f).length c)∧w.heap.size≤g∧g<w'.heap.size∧Own w' g (Pl.ftRow r f)∧Kept 0 0 w w':=by
 have HG:=hide hg
 clear hg
 have K0:=hide (kept_new (kept_alloc w (.cells #[.slice a r.xs.length ca,.slice b r.ys.length cb,iv r.o,iv r.p,iv r.f,iv r.m,.bool r.s,.bool r.t] 33)) (.cells (ftA f) 42))
 have BC0:=hide ((Blk.new w #[.slice a r.xs.length ca,.slice b r.ys.length cb,iv r.o,iv r.p,iv r.f,iv r.m,.bool r.s,.bool r.t] 33).alloc (.cells (ftA f) 42))
 have BF0:=Blk.new (w.alloc (.cells #[.slice a r.xs.length ca,.slice b r.ys.length cb,iv r.o,iv r.p,iv r.f,iv r.m,.bool r.s,.bool r.t] 33)) (ftA f) 42
 simp only [World.size_alloc] at BF0
 replace BF0:=hide BF0
 obtain ⟨X,hX⟩:∃X:World,(w.alloc (.cells #[.slice a r.xs.length ca,.slice b r.ys.length cb,iv r.o,iv r.p,iv r.f,iv r.m,.bool r.s,.bool r.t] 33)).alloc (.cells (ftA f) 42)=X:=⟨_,rfl⟩
 rw [hX] at K0 BC0 BF0
 have nX:X.heap.size=w.heap.size+2:=by simp [←hX]
 obtain ⟨i,hi0,hz0,hz1,hz2⟩:=info_parts Tryz.info3
 have H63:Hid (2+3≤maxLen):=hide (by unfold maxLen;omega)
 go_enter func38,ntmps38
 go_wp2_with fail
 go_region_held3 (fun w'=>(∀i,w'.cell? ⟨w.heap.size,i,none⟩=(#[.slice a r.xs.length ca,.slice b r.ys.length cb,iv r.o,iv r.p,iv r.f,iv r.m,.bool r.s,.bool r.t])[i]?)∧(∀i,w'.cell? ⟨w.heap.size+1,i,none⟩=(ftA f)[i]?)) (first|exact ⟨BC3.out.all,BF3.out.all⟩|exact ⟨(BC3.out.alloc _).all,(BF3.out.alloc _).all⟩|exact ⟨(show Blk _ _ _ _ from BC0.out).all,(show Blk _ _ _ _ from BF0.out).all⟩) (first|(go_at_call 72;refine (specStatus _ r a b ca cb HG.out).mono ?_;rintro e9 w3 ⟨rfl,k3⟩;have K3:=hide (K0.out.trans (undrewK k3));have BC3:=hide (BC0.out.kept0 (undrewK k3));have BF3:=hide (BF0.out.kept0 (undrewK k3));clear k3))
 have BC4:=hide (BC3.out.alloc (.cells #[iv f.pc,iv (Pl.status r)] 3))
 have BF4:=hide (BF3.out.alloc (.cells #[iv f.pc,iv (Pl.status r)] 3))
 have BR4:=hide (Blk.new w3 #[iv f.pc,iv (Pl.status r)] 3)
 have K4:=hide (kept_new K3.out (.cells #[iv f.pc,iv (Pl.status r)] 3))
 have n3:=BF3.out.lt
 have hs3:w.heap.size≤w3.heap.size:=by omega
 obtain ⟨X4,hX4⟩:∃X:World,w3.alloc (.cells #[iv f.pc,iv (Pl.status r)] 3)=X:=⟨_,rfl⟩
 rw [hX4] at BC4 BF4 BR4 K4
 have p:=BF4.out.all
 have p2:=BC4.out.all
 cases h:Pl.ftLong f.v
 ·have E:Hid (Pl.ftRow r f=[f.pc,Pl.status r]):=hide (by simp [Pl.ftRow,h])
  go_wp2_with (first|(go_at_call 36;refine (l11Long _ _).mono ?_;rintro e9 w9 ⟨rfl,hw⟩;have hw2:=hw.symm;clear hw;subst hw2;rw [h]))
  go_ret
  exact ⟨_,_,by rw [E.out];rfl,hs3,BR4.out.lt,by rw [E.out];exact own_of_blk (xs:=[f.pc,Pl.status r]) BR4.out,K4.out⟩
 ·have E:Hid (Pl.ftRow r f=[f.pc,Pl.status r,f.wo,f.ad,Pl.ftInfo r.s f]):=hide (by simp [Pl.ftRow,h])
  go_wp2_with (first|(go_at_call 36;refine (l11Long _ _).mono ?_;rintro e9 w9 ⟨rfl,hw⟩;have hw2:=hw.symm;clear hw;subst hw2;rw [h]))
  clear p p2
  go_region_held3 (fun w'=>(∀i,w'.cell? ⟨w.heap.size,i,none⟩=(#[.slice a r.xs.length ca,.slice b r.ys.length cb,iv r.o,iv r.p,iv r.f,iv r.m,.bool r.s,.bool r.t])[i]?)∧(∀i,w'.cell? ⟨w.heap.size+1,i,none⟩=(ftA f)[i]?)) (first|exact ⟨BC7.out.all,BF7.out.all⟩|exact ⟨BC6.out.all,BF6.out.all⟩|exact ⟨(BC6.out.alloc _).all,(BF6.out.alloc _).all⟩|exact ⟨(show Blk _ _ _ _ from BC4.out).all,(show Blk _ _ _ _ from BF4.out).all⟩) (first|(go_at_call 73;refine (l11Info r.s f _).mono ?_;rintro e9 w5 ⟨rfl,k5⟩;have K6:=hide (K4.out.trans (undrewK k5));have BC6:=hide (BC4.out.kept0 (undrewK k5));have BF6:=hide (BF4.out.kept0 (undrewK k5));have BR6:=hide (BR4.out.kept0 (undrewK k5));clear k5)|(refine step_append_lies _ (by rfl) _ _ _ (by rfl) w3.heap.size 3 i (iv 0) 1 8 underlying22 hi0 hz0 hz1 hz2 rfl (by decide) (.slice (some ⟨w3.heap.size,0,none⟩) 2 2) 2 [iv f.pc,iv (Pl.status r)] (by rfl) (own2 (BR6.out.alloc _)) ⟨w5.heap.size,0,none⟩ 3 3 [iv f.wo,iv f.ad,iv (Pl.ftInfo r.s f)] (by rfl) (by rfl) (World.news_of_block (cs:=#[iv f.wo,iv f.ad,iv (Pl.ftInfo r.s f)]) (t:=3) (fr:=(0,0)) (heap_alloc_new w5 _)) (by simp [Value.oneCell']) (by decide) H63.out (by decide) (by have:=BR6.out.lt;simp;omega) (w5.heap.size+1) (by simp) ?_;intro g3 c3 w7 hown hgrow hat hlt;have O7:=hide hown;have G7:=hide hgrow;have hl6:=BR6.out.lt;have BC7:Hid (Blk w7 w.heap.size #[.slice a r.xs.length ca,.slice b r.ys.length cb,iv r.o,iv r.p,iv r.f,iv r.m,.bool r.s,.bool r.t] 33):=hide ((hgrow.block w.heap.size (by have:=BC6.out.lt;simp;omega) (by simp [Value.ownBlock];omega)).trans (BC6.out.alloc _));have BF7:Hid (Blk w7 (w.heap.size+1) (ftA f) 42):=hide ((hgrow.block (w.heap.size+1) (by have:=BF6.out.lt;simp;omega) (by simp [Value.ownBlock];omega)).trans (BF6.out.alloc _));clear hown hgrow))
  go_wp2_with fail
  go_ret
  have kk:=kept_row G7.out (lo:=w3.heap.size) (hi:=w3.heap.size+1) (by intro j hj;have h5:w3.heap.size=j:=Option.some.inj hj;omega)
  obtain ⟨p3,p4⟩:=O7.out.lt g3 rfl
  exact ⟨g3,c3,by rw [E.out];rfl,by omega,p4,by rw [E.out];exact own_of_row (xs:=[f.pc,Pl.status r,f.wo,f.ad,Pl.ftInfo r.s f]) O7.out,kept_over (kept_new K6.out (.cells #[iv f.wo,iv f.ad,iv (Pl.ftInfo r.s f)] 3)) kk (by omega)⟩
theorem own_empty1 {w:World} {g base size:Nat} {e:TypeId} (h:Blk w g #[] e) (hb:base≤g):w.ownsRow base e size (.slice (some ⟨g,0,none⟩) 0 0) 0 []:=
 ⟨by simp,.inr ⟨g,0,#[],rfl,hb,h,Nat.le_refl _,Nat.zero_le _,by simp,by simp⟩⟩
theorem copy_ints {ops:Array Oper} {rest:List Oper} {o:Oper} {a:Act} {w:World} {Q:Exit→Act→World→Prop} (hgd:o.guard=none) (s x:Operand)
  (ho:o.op=.call {callee:=.builtin .append,args:=#[s,x],argTypes:=#[22,22]}) (base g:Nat) (hs:a.eval s=.slice (some ⟨g,0,none⟩) 0 0) (hg:Blk w g #[] 3) (hbg:base≤g)
  (sp:Option Addr) (n c:Nat) (xs:List Int) (hx:a.eval x=.slice sp n c) (hr:IRow w sp xs) (hn:xs.length=n) (bn:n≤2000000) (H:Nat) (hH:w.heap.size=H)
  (h:∀(g' cap:Nat) (w':World),w'.ownsRow base 3 1 (.slice (some ⟨g',0,none⟩) n cap) n (xs.map (Value.int .i64))→Kept g (g+1) w w'→(g'=g∨g'=H)→g'<w'.heap.size→wpList prog ops Q rest (a.put o.dst (.slice (some ⟨g',0,none⟩) n cap)) w') :
  wpList prog ops Q (o :: rest) a w:=by
 obtain ⟨i,hi,hz0,hz1,hz2⟩:=info_parts Tryz.info3
 have hlt:=hg.lt
 by_cases h0:n=0
 ·subst h0
  obtain rfl:xs=[]:=List.eq_nil_of_length_eq_zero hn
  have hl0:∀(x:Addr),(loadCells x 0).run prog w=.ok #[] w:=fun x=>by simpa using run_loadCells_list (P:=prog) w x [] (by simp)
  have hrun:(Builtin.append_ #[22,22] o.type #[.slice (some ⟨g,0,none⟩) 0 0,.slice sp 0 c]).run prog w=.ok (.slice (some ⟨g,0,none⟩) 0 0) w:=by
   cases sp<;>simp [Builtin.append_,run_underlying underlying22,Builtin.lenOf,Builtin.firstCells,sizeOf,typeInfo,hi,storeCells,hl0]
  refine wpList_plain hgd fun K hK => ?_
  unfold Oper.wp
  simp [execOp,ho,resolve,invoke,builtin,hs,hx,hrun,Result.andThen]
  exact hK _ _ (h g 0 w (own_empty1 hg hbg) (Kept.refl _ _ _) (.inl rfl) hlt)
 ·obtain ⟨ga,oa,rfl,_⟩:=hr 0 (by omega)
  refine wpList_append_lies _ hgd s x 22 ho base 3 i (iv 0) 1 8 underlying22 hi hz0 hz1 hz2 rfl (by decide) (.slice (some ⟨g,0,none⟩) 0 0) 0 [] hs (own_empty1 hg hbg) ⟨ga,oa,none⟩ n c (xs.map (Value.int .i64)) hx (by simp [hn]) (news_of hr) news_one (by omega) (by unfold maxLen;omega) (by omega) (by omega) H hH ?_
  intro g' cap w' h1 h2 h3 h4
  simp only [Nat.zero_add,List.nil_append] at h1 ⊢
  refine h g' cap w' h1 (kept_row h2 (by intro j hj;have h5:g=j:=Option.some.inj hj;omega)) ?_ h4
  rcases h3 with h3|h3
  ·exact .inl (Option.some.inj h3).symm
  ·exact .inr h3
def RegIn (w:World) (base:Nat) (r:Pl.Rg) (a b:Option Addr):Prop:=SlotIn w base w.heap.size a r.xs∧SlotIn w base w.heap.size b r.ys∧(∀g,blk a=some g→blk b≠some g)
theorem RegIn.kept {w w':World} {base:Nat} {r:Pl.Rg} {a b:Option Addr} (h:RegIn w base r a b) (k:Kept 0 0 w w'):RegIn w' base r a b:=
 ⟨(h.1.kept k (by omega)).wide (Nat.le_refl _) k.size,(h.2.1.kept k (by omega)).wide (Nat.le_refl _) k.size,h.2.2⟩
def RegAt (w:World) (lo hi:Nat) (r:Pl.Rg) (a b:Option Addr):Prop:=SlotIn w lo hi a r.xs∧SlotIn w lo hi b r.ys∧(∀g,blk a=some g→blk b≠some g)
theorem RegAt.kept {w w':World} {lo hi l h':Nat} {r:Pl.Rg} {a b:Option Addr} (h:RegAt w lo hi r a b) (k:Kept l h' w w') (hd:hi≤l∨h'≤lo∨h'≤l):RegAt w' lo hi r a b:=⟨h.1.kept k hd,h.2.1.kept k hd,h.2.2⟩
theorem RegAt.setY {w:World} {lo hi g k:Nat} {r:Pl.Rg} {a:Option Addr} (h:RegAt w lo hi r a (some ⟨g,0,none⟩)) (z:Int) (h0:0<r.ys.length):RegAt (w.setCell ⟨g,k,none⟩ (iv z)) lo hi {r with ys:=r.ys.set k z} a (some ⟨g,0,none⟩):=by
 obtain ⟨h1,h2,h3⟩:=h
 refine ⟨?_,?_,h3⟩
 ·rcases h1 with h1|⟨g',e1,b0,b1,ho⟩
  ·exact .inl h1
  ·refine .inr ⟨g',e1,b0,b1,ho.setOther _ _ _ (fun ee => ?_)⟩
   exact h3 g' (by rw [e1];rfl) (by rw [ee];rfl)
 ·rcases h2 with ⟨h2,_⟩|⟨g',e1,b0,b1,ho⟩
  ·cases h2
  ·cases e1
   exact .inr ⟨g,rfl,b0,b1,ho.set z⟩
theorem specOwn (w:World) (r:Pl.Rg) (a b:Option Addr) (ca cb:Nat) (ha:IRow w a r.xs) (hb:IRow w b r.ys) (lx:r.xs.length≤2000000) (ly:r.ys.length≤2000000) :
  Calls prog 92 #[.agg #[.slice a r.xs.length ca,.slice b r.ys.length cb,iv r.o,iv r.p,iv r.f,iv r.m,.bool r.s,.bool r.t]] w fun e w'=>∃(a' b':Option Addr) (ca' cb':Nat),e=.returned (.agg #[.slice a' r.xs.length ca',.slice b' r.ys.length cb',iv r.o,iv r.p,iv r.f,iv r.m,.bool r.s,.bool r.t])∧RegIn w' w.heap.size r a' b'∧Kept 0 0 w w':=by
 have HA:=hide ha
 have HB:=hide hb
 clear ha hb
 have K0:=hide (kept_new (kept_new (kept_alloc w (.cells #[.slice a r.xs.length ca,.slice b r.ys.length cb,iv r.o,iv r.p,iv r.f,iv r.m,.bool r.s,.bool r.t] 33)) (.cells #[.slice none 0 0,.slice none 0 0,iv 0,iv 0,iv 0,iv 0,.bool false,.bool false] 33)) (.cells #[] 3))
 have B0:=hide (((Blk.new w #[.slice a r.xs.length ca,.slice b r.ys.length cb,iv r.o,iv r.p,iv r.f,iv r.m,.bool r.s,.bool r.t] 33).alloc (.cells #[.slice none 0 0,.slice none 0 0,iv 0,iv 0,iv 0,iv 0,.bool false,.bool false] 33)).alloc (.cells #[] 3))
 have B1:=(Blk.new (w.alloc (.cells #[.slice a r.xs.length ca,.slice b r.ys.length cb,iv r.o,iv r.p,iv r.f,iv r.m,.bool r.s,.bool r.t] 33)) #[.slice none 0 0,.slice none 0 0,iv 0,iv 0,iv 0,iv 0,.bool false,.bool false] 33).alloc (.cells #[] 3)
 have B2:=Blk.new ((w.alloc (.cells #[.slice a r.xs.length ca,.slice b r.ys.length cb,iv r.o,iv r.p,iv r.f,iv r.m,.bool r.s,.bool r.t] 33)).alloc (.cells #[.slice none 0 0,.slice none 0 0,iv 0,iv 0,iv 0,iv 0,.bool false,.bool false] 33)) #[] 3
 simp only [World.size_alloc] at B1 B2
 replace B1:=hide B1
 replace B2:=hide B2
 go_enter func92,ntmps92
 go_wp2_with (at_builtin;refine copy_ints rfl (.tmp 3) (.tmp 5) rfl w.heap.size (w.heap.size+1+1) rfl B2.out (by omega) a r.xs.length ca r.xs rfl (HA.out.keptS K0.out) rfl lx (w.heap.size+1+1+1) (by simp) ?_)
 intro g1 c1 w1 o1 k1 hg1 l1
 have C0:=hide (B0.out.kept k1 (by omega))
 have C1:=hide (B1.out.kept k1 (by omega))
 have d3:=C0.out.cell (i:=0) rfl
 have f3:=C0.out.frozen 0
 have n0:=B2.out.lt
 have n1:=k1.size
 obtain ⟨p1,p2⟩:=o1.lt g1 rfl
 have D0:=hide ((C0.out.set 0 (.slice (some ⟨g1,0,none⟩) r.xs.length c1)).alloc (.cells #[] 3))
 have D1:=hide ((C1.out.other w.heap.size 0 (.slice (some ⟨g1,0,none⟩) r.xs.length c1) (by omega)).alloc (.cells #[] 3))
 have O1:=hide ((o1.kept (grownBy_set w1 w.heap.size 0 (.slice (some ⟨g1,0,none⟩) r.xs.length c1)) (.inr (fun e=>by have h3:g1=w.heap.size:=Option.some.inj e;omega))).alloc (.cells #[] 3))
 have K1:=hide (kept_new (kept_set (kept_over K0.out k1 (by omega)) w.heap.size 0 (.slice (some ⟨g1,0,none⟩) r.xs.length c1) (.inr (Nat.le_refl _))) (.cells #[] 3))
 have E2:=Blk.new (w1.setCell ⟨w.heap.size,0,none⟩ (.slice (some ⟨g1,0,none⟩) r.xs.length c1)) #[] 3
 simp only [World.size_setCell] at E2
 replace E2:=hide E2
 have q4:=D0.out.cell (i:=1) rfl
 clear o1 k1 B0 B1 B2 C0 C1
 go_wp2_with (at_builtin;refine copy_ints rfl (.tmp 8) (.tmp 10) rfl w.heap.size w1.heap.size rfl E2.out (by omega) b r.ys.length cb r.ys rfl (HB.out.keptS K1.out) rfl ly (w1.heap.size+1) (by simp) ?_)
 intro g2 c2 w2 o2 k2 hg2 l2
 clear q4 d3 f3
 have F0:=D0.out.kept k2 (by omega)
 have F1:=D1.out.kept k2 (by omega)
 obtain ⟨p3,p4⟩:=o2.lt g2 rfl
 have n2:=k2.size
 simp only [World.size_alloc,World.size_setCell] at n2
 have P1:=hide (O1.out.kept (kept_by k2) (.inr (fun e=>by have h3:g1=w1.heap.size:=Option.some.inj e;omega)))
 have P2:=hide o2
 have K2:=hide (kept_over K1.out k2 (by omega))
 have x0:=F0.all
 have v1':=F0.frozen 1
 have y0:=F1.all
 have u0:=F1.fz
 have G1:=hide F1
 have hne:g1≠g2:=by omega
 clear F0 F1 o2 k2
 go_wp2_with fail
 refine bodyPost_ret (v:=.agg #[.slice (some ⟨g1,0,none⟩) r.xs.length c1,.slice (some ⟨g2,0,none⟩) r.ys.length c2,iv r.o,iv r.p,iv r.f,iv r.m,.bool r.s,.bool r.t]) ?_ rfl ?_
 ·exact results_cell_row rfl _ _ _ _ _ (0,0) _ rfl (((((((((G1.out.other _ _ _ (by omega)).set _ _).set _ _).set _ _).set _ _).set _ _).set _ _).set _ _).set _ _) underlying33 rfl (by kernel_rfl)
 ·refine ⟨some ⟨g1,0,none⟩,some ⟨g2,0,none⟩,c1,c2,rfl,⟨.inr ⟨g1,rfl,by omega,by simp;omega,?_⟩,.inr ⟨g2,rfl,by omega,by simp;omega,?_⟩,?_⟩,?_⟩
  ·exact ((((((((((own_of_row P1.out).setOther _ _ _ (by omega)).setOther _ _ _ (by omega)).setOther _ _ _ (by omega)).setOther _ _ _ (by omega)).setOther _ _ _ (by omega)).setOther _ _ _ (by omega)).setOther _ _ _ (by omega)).setOther _ _ _ (by omega)).setOther _ _ _ (by omega))
  ·exact ((((((((((own_of_row P2.out).setOther _ _ _ (by omega)).setOther _ _ _ (by omega)).setOther _ _ _ (by omega)).setOther _ _ _ (by omega)).setOther _ _ _ (by omega)).setOther _ _ _ (by omega)).setOther _ _ _ (by omega)).setOther _ _ _ (by omega)).setOther _ _ _ (by omega))
  ·intro g hg hh
   simp [blk] at hg hh
   omega
  ·exact (kept_set (kept_set (kept_set (kept_set (kept_set (kept_set (kept_set (kept_set (kept_set K2.out _ _ _ (.inr (by omega))) _ _ _ (.inr (by omega))) _ _ _ (.inr (by omega))) _ _ _ (.inr (by omega))) _ _ _ (.inr (by omega))) _ _ _ (.inr (by omega))) _ _ _ (.inr (by omega))) _ _ _ (.inr (by omega))) _ _ _ (.inr (by omega)))
theorem fin1024 {p:Int→Prop} (h:∀m:Fin 1024,p (m.val:Int)) {n:Int} (h0:0≤n) (h1:n≤1023):p n:=by
 have:=h ⟨n.toNat,by omega⟩
 have e:((n.toNat:Nat):Int)=n:=by omega
 simpa [e] using this
theorem st256 {n:Int} (h0:0≤n) (h1:n≤1023):(bits .and .i64 n 256 != 0)=Pl.stSuper n:=fin1024 (p:=fun n=>(bits .and .i64 n 256 != 0)=Pl.stSuper n) (by decide +kernel) h0 h1
theorem st512 {n:Int} (h0:0≤n) (h1:n≤1023):(bits .and .i64 n 512 != 0)=Pl.stTrace n:=fin1024 (p:=fun n=>(bits .and .i64 n 512 != 0)=Pl.stTrace n) (by decide +kernel) h0 h1
theorem st31 {n:Int} (h0:0≤n) (h1:n≤1023):bits .and .i64 n 31=n%32:=fin1024 (p:=fun n=>bits .and .i64 n 31=n%32) (by decide +kernel) h0 h1
theorem st7 {n:Int} (h0:0≤n) (h1:n≤1023):bits .and .i64 (n/32) 7=n/32%8:=fin1024 (p:=fun n=>bits .and .i64 (n/32) 7=n/32%8) (by decide +kernel) h0 h1
theorem specWith (w:World) (lo hi:Nat) (r:Pl.Rg) (a b:Option Addr) (ca cb:Nat) (n:Int) (hr:RegAt w lo hi r a b) (hh:hi≤w.heap.size) (hg:Pl.Good r) (h0:0≤n) (h1:n≤1023) :
  Calls prog 39 #[.agg #[.slice a r.xs.length ca,.slice b r.ys.length cb,iv r.o,iv r.p,iv r.f,iv r.m,.bool r.s,.bool r.t],iv n] w fun e w'=>e=.returned (.agg #[.slice a (Pl.withR r n).xs.length ca,.slice b (Pl.withR r n).ys.length cb,iv (Pl.withR r n).o,iv (Pl.withR r n).p,iv (Pl.withR r n).f,iv (Pl.withR r n).m,.bool (Pl.withR r n).s,.bool (Pl.withR r n).t])∧RegAt w' lo hi (Pl.withR r n) a b∧Kept lo hi w w':=by
 have e1:=st256 h0 h1
 have e2:=st512 h0 h1
 have e3:=st31 h0 h1
 have e4:=st7 h0 h1
 have HR:=hide hr
 by_cases hs:Pl.stSuper n=r.s
 ·have q1:(Pl.stSuper n != r.s)=false:=by simp [hs]
  have E:Hid (Pl.withR r n={r with t:=Pl.stTrace n,m:=n/32%8,f:=n%32}):=hide (by unfold Pl.withR;rw [if_pos hs,hs])
  clear hr
  go_enter func39,ntmps39
  go_wp2_with fail
  refine bodyPost_ret (v:=.agg #[.slice a r.xs.length ca,.slice b r.ys.length cb,iv r.o,iv r.p,iv (n%32),iv (n/32%8),.bool r.s,.bool (Pl.stTrace n)]) ?_ rfl ?_
  ·rw [results_one rfl];go_simp
  ·rw [E.out]
   exact ⟨rfl,HR.out.kept (kept_new (kept_alloc _ _) _) (by omega),(kept_new (kept_alloc _ _) _).any⟩
 ·have q1:(Pl.stSuper n==r.s)=false:=by simpa using hs
  have E:Hid (Pl.withR r n={r with ys:=r.ys.set 3 r.o,o:=el r.ys 3,s:=Pl.stSuper n,t:=Pl.stTrace n,m:=n/32%8,f:=n%32}):=hide (by unfold Pl.withR;rw [if_neg hs])
  have h4:=hg.a4
  have hl:(3:Int)<(r.ys.length:Int):=by omega
  have HL:=hide h4
  clear h4
  obtain ⟨s1,s2,s3⟩:=hr
  rcases s2 with ⟨_,e⟩|⟨g,rfl,b0,b1,hown⟩
  ·rw [e] at hl;simp at hl
  ·have b9:g<w.heap.size:=by omega
   have HO:=hide hown
   have HX:=hide s1
   have HN:=hide s3
   have c3:w.cell? ⟨g,3,none⟩=some (iv (el r.ys 3)):=(hown 3 (by have:=HL.out;omega)).1
   have f3:=(hown 3 (by have:=HL.out;omega)).2
   clear hown s1 s3 hs
   go_enter func39,ntmps39
   go_wp2_with fail
   refine bodyPost_ret (v:=.agg #[.slice a r.xs.length ca,.slice (some ⟨g,0,none⟩) r.ys.length cb,iv (el r.ys 3),iv r.p,iv (n%32),iv (n/32%8),.bool (Pl.stSuper n),.bool (Pl.stTrace n)]) ?_ rfl ?_
   ·rw [results_one rfl];go_simp
   ·rw [E.out]
    refine ⟨?_,(HR.out.setY (k:=3) r.o (by have:=HL.out;omega)).kept (kept_new (kept_alloc _ _) _) (by omega),(kept_set (Kept.refl _ _ _) _ _ _ (.inl ⟨b0,b1⟩)).trans (kept_new (kept_alloc _ _) _).any⟩
    simp
theorem l4Own_log (w : World) (ga oa gb ob : Nat) (ca cb m : Nat) (xs ys : List Int) (ha : IRow w (some ⟨ga, oa, none⟩) xs) (hb : IRow w (some ⟨gb, ob, none⟩) ys) (lx : xs.length ≤ 2000000) (ly : ys.length = 5 * m) (bm : m ≤ 2000000) (x0 : 0 < xs.length) (m0 : 0 < m) :
    Calls prog 93 #[.agg #[.slice (some ⟨ga, oa, none⟩) xs.length ca, .slice (some ⟨gb, ob, none⟩) m cb]] w fun e w' => ∃ (g1 c1 g2 c2 : Nat), e = .returned (.agg #[.slice (some ⟨g1, 0, none⟩) xs.length c1, .slice (some ⟨g2, 0, none⟩) m c2]) ∧ w'.ownsRow w.heap.size 3 1 (.slice (some ⟨g1, 0, none⟩) xs.length c1) xs.length (xs.map (Value.int .i64)) ∧ w'.ownsRow w.heap.size 96 5 (.slice (some ⟨g2, 0, none⟩) m c2) m (ys.map (Value.int .i64)) ∧ g1 < g2 ∧ Kept 0 0 w w' := by
  obtain ⟨i, hi, hz0, hz1, hz2⟩ := info_parts Tryz.info3
  obtain ⟨j, hj, hy0, hy1, hy2⟩ := info_parts Tryz.infoAcc
  have HY := hide ly
  have HA := hide ha
  have HB := hide hb
  have K0 := hide (kept_new (kept_alloc w (.cells #[.slice (some ⟨ga, oa, none⟩) xs.length ca, .slice (some ⟨gb, ob, none⟩) m cb] 36)) (.cells #[.slice none 0 0, .slice none 0 0] 36))
  have B0 := hide ((Blk.new w #[.slice (some ⟨ga, oa, none⟩) xs.length ca, .slice (some ⟨gb, ob, none⟩) m cb] 36).alloc (.cells #[.slice none 0 0, .slice none 0 0] 36))
  have B1 := Blk.new (w.alloc (.cells #[.slice (some ⟨ga, oa, none⟩) xs.length ca, .slice (some ⟨gb, ob, none⟩) m cb] 36)) #[.slice none 0 0, .slice none 0 0] 36
  simp only [World.size_alloc] at B1
  replace B1 := hide B1
  have hn5 : (ys.map (Value.int .i64)).length = m * 5 := by rw [List.length_map, ly]; omega
  have hmx : 0 + m ≤ maxLen := by unfold maxLen; omega
  have hby : (0 + m) * 40 ≤ 140737488355328 := by omega
  have HX1 : Hid ((xs.map (Value.int .i64)).length = xs.length * 1) := hide (by simp)
  have HXM : Hid (0 + xs.length ≤ maxLen) := hide (by unfold maxLen; omega)
  have HXB : Hid ((0 + xs.length) * 8 ≤ 140737488355328) := hide (by omega)
  have H5 : Hid (0 < 5) := hide (by decide)
  have HN5 := hide hn5
  have HMX := hide hmx
  have HBY := hide hby
  clear ly ha hb hn5 hmx hby
  go_enter func93, ntmps93
  go_wp2_with fail
  go_region_law (first
    | (refine step_append_grows rfl (.tmp 3) (.tmp 5) 22 rfl 3 i (iv 0) 1 8 underlying22 hi hz0 hz1 hz2 rfl Nat.one_pos _ 0 0 [] rfl ?n1 rfl ?n2 ⟨ga, oa, none⟩ xs.length ca (xs.map (Value.int .i64)) rfl HX1.out ?news news_one ?n3 HXM.out HXB.out ?_
       (case n1 => intro h; cases h)
       (case n2 => intro b _ j u h; simp at h)
       (case n3 => omega)
       (case news => first | exact news_of (HA.out.keptS (kept_drew (kept_new K0.out _))) | exact news_of (HA.out.keptS (kept_drew (kept_new (kept_new K0.out _) _))))
       intro v1 w1 own1 gr1
       obtain ⟨g1, c1, rfl, b1, l1⟩ := own_form own1 (by omega)
       have k1 := undrewK (kept_grown gr1)
       have O1 := hide (own_base (base' := w.heap.size) own1 (by simp <;> omega))
       have B01 : Hid (Blk w1 w.heap.size #[.slice (some ⟨ga, oa, none⟩) xs.length ca, .slice (some ⟨gb, ob, none⟩) m cb] 36) := by first | exact hide (((B0.out.alloc _).kept0 k1)) | exact hide ((((B0.out.alloc _).alloc _).kept0 k1))
       have B11 : Hid (Blk w1 (w.heap.size + 1) #[.slice none 0 0, .slice none 0 0] 36) := by first | exact hide (((B1.out.alloc _).kept0 k1)) | exact hide ((((B1.out.alloc _).alloc _).kept0 k1))
       have K1 : Hid (Kept 0 0 w w1) := by first | exact hide ((kept_new K0.out _).trans k1) | exact hide ((kept_new (kept_new K0.out _) _).trans k1)
       have q1 := B01.out.cell (i := 1) rfl
       have q2 : ∀ o, (w1.alloc o).cell? ⟨w.heap.size, 1, none⟩ = some (.slice (some ⟨gb, ob, none⟩) m cb) := fun o => (B01.out.alloc o).cell (i := 1) rfl
       simp at b1
       clear own1 gr1 k1)
    | (refine step_append_grows rfl (.tmp 7) (.tmp 9) 34 rfl 96 j (.agg #[iv 0, iv 0, iv 0, iv 0, iv 0]) 5 40 underlying34 hj hy0 hy1 hy2 rfl H5.out _ 0 0 [] rfl ?n1 rfl ?n2 ⟨gb, ob, none⟩ m cb (ys.map (Value.int .i64)) rfl HN5.out ?news news_one ?n3 HMX.out HBY.out ?_
       (case n1 => intro h; cases h)
       (case n2 => intro b _ j u h; simp at h)
       (case n3 => omega)
       (case news => first | exact news_of (HB.out.keptS K1.out) | exact news_of (HB.out.keptS (kept_new K1.out _)))
       intro v2 w2 own2 gr2
       obtain ⟨g2, c2, rfl, b2, l2⟩ := own_form own2 (by omega)
       have k2 := kept_grown gr2
       have O2 := hide (own_base (base' := w.heap.size) own2 (by have := K1.out.size; simp <;> omega))
       have B12 : Hid (Blk w2 (w.heap.size + 1) #[.slice none 0 0, .slice none 0 0] 36) := by first | exact hide (B11.out.kept0 k2) | exact hide ((B11.out.alloc _).kept0 k2)
       have K2 : Hid (Kept 0 0 w w2) := by first | exact hide (K1.out.trans k2) | exact hide ((kept_new K1.out _).trans k2)
       have O12 : Hid (w2.ownsRow w.heap.size 3 1 (.slice (some ⟨g1, 0, none⟩) (0 + xs.length) c1) (0 + xs.length) ([] ++ xs.map (Value.int .i64))) := by first | exact hide (O1.out.kept gr2 (.inr (fun h => by cases h))) | exact hide ((O1.out.alloc _).kept gr2 (.inr (fun h => by cases h)))
       have r0 := B12.out.cell (i := 0) rfl
       have r1 := B12.out.cell (i := 1) rfl
       have f0 := B12.out.frozen 0
       have f1 := B12.out.frozen 1
       clear own2 gr2 k2))
  all_goals
    try simp only [World.size_alloc] at b2
    go_wp2_with fail
    refine bodyPost_ret (v := .agg #[.slice (some ⟨g1, 0, none⟩) xs.length c1, .slice (some ⟨g2, 0, none⟩) m c2]) ?_ rfl ⟨g1, c1, g2, c2, rfl, ?_, ?_, by omega, ?_⟩
    · rw [results_one rfl]; go_simp
    · have h := O12.out
      simp only [Nat.zero_add, List.nil_append] at h
      exact ((h.kept (grownBy_set _ _ _ _) (.inr (fun e => by have h2 : g1 = w.heap.size + 1 := Option.some.inj e; omega))).kept (grownBy_set _ _ _ _) (.inr (fun e => by have h2 : g1 = w.heap.size + 1 := Option.some.inj e; omega)))
    · have h := O2.out
      simp only [Nat.zero_add, List.nil_append] at h
      exact ((h.kept (grownBy_set _ _ _ _) (.inr (fun e => by have h2 : g2 = w.heap.size + 1 := Option.some.inj e; omega))).kept (grownBy_set _ _ _ _) (.inr (fun e => by have h2 : g2 = w.heap.size + 1 := Option.some.inj e; omega)))
    · exact kept_set (kept_set K2.out _ _ _ (.inr (by omega))) _ _ _ (.inr (by omega))
structure FrP (P:Nat→Prop) (w w':World):Prop where
 os:w'.os=w.os
 tape:w'.tape=w.tape
 output:w'.output=w.output
 size:w.heap.size≤w'.heap.size
 block:∀k,k<w.heap.size→¬P k→w'.heap[k]? = w.heap[k]?
theorem FrP.refl (P:Nat→Prop) (w:World):FrP P w w:=⟨rfl,rfl,rfl,Nat.le_refl _,fun _ _ _=>rfl⟩
theorem FrP.trans {P:Nat→Prop} {a b c:World} (h:FrP P a b) (k:FrP P b c):FrP P a c:=
 ⟨k.os.trans h.os,k.tape.trans h.tape,k.output.trans h.output,Nat.le_trans h.size k.size,fun i hi hn=>(k.block i (Nat.lt_of_lt_of_le hi h.size) hn).trans (h.block i hi hn)⟩
theorem FrP.wide {P Q:Nat→Prop} {a b:World} (h:FrP P a b) (hq:∀k,k<a.heap.size→P k→Q k):FrP Q a b:=
 ⟨h.os,h.tape,h.output,h.size,fun k hk hn=>h.block k hk (fun hp=>hn (hq k hk hp))⟩
theorem frp_kept {P:Nat→Prop} {lo hi:Nat} {w w':World} (h:Kept lo hi w w') (hp:∀k,lo≤k→k<hi→P k):FrP P w w':=
 ⟨h.os,h.tape,h.output,h.size,fun k hk hn=>h.block k hk (fun q=>hn (hp k q.1 q.2))⟩
theorem FrP.alloc {P:Nat→Prop} {a w:World} (h:FrP P a w) (o:Obj):FrP P a (w.alloc o):=h.trans (frp_kept (kept_alloc w o) (by omega))
theorem FrP.grown {P:Nat→Prop} {a w w':World} {row:Option Nat} (h:FrP P a w) (hg:w.grownBy w' row) (hr:∀g,row=some g→P g):FrP P a w':=
 h.trans ⟨hg.os,hg.tape,hg.output,hg.size,fun k hk hn=>hg.block k hk (fun e=>hn (hr k e.symm))⟩
theorem FrP.set {P:Nat→Prop} {a w:World} (h:FrP P a w) (b i:Nat) (v:Value) (hb:P b∨a.heap.size≤b):FrP P a (w.setCell ⟨b,i,none⟩ v):=
 ⟨h.os,h.tape,h.output,Nat.le_trans h.size (by simp),fun k hk hn=>(Below.heap_setCell w ⟨b,i,none⟩ v k (fun e=>by
  have e2:k=b:=e
  subst e2
  rcases hb with hb|hb
  ·exact hn hb
  ·omega)).trans (h.block k hk hn)⟩
theorem FrP.blk {P:Nat→Prop} {w w':World} (h:FrP P w w') {b:Nat} {cs:Array Value} {ty:TypeId} (hB:Blk w b cs ty) (hn:¬P b):Blk w' b cs ty:=(h.block b hB.lt hn).trans hB
theorem FrP.own {P:Nat→Prop} {w w':World} (h:FrP P w w') {b:Nat} {xs:List Int} (hB:Own w b xs) (hn:¬P b):Own w' b xs:=by
 intro i hi
 obtain ⟨hc,hf⟩:=hB i hi
 have e:=h.block b (World.block_lt_of_cell? _ _ hc) hn
 exact ⟨by rw [World.cell?_of_block (w:=w) e];exact hc,by rw [World.frozen?_of_block (w:=w) e];exact hf⟩
def own (lo hi g k:Nat):Prop:=(lo≤k∧k<hi)∨k=g
def Since (w:World) (lo hi g:Nat) (w':World) (g':Nat):Prop:=(g'=g∨w.heap.size≤g')∧FrP (own lo hi g) w w'
theorem Since.refl (w:World) (lo hi g:Nat):Since w lo hi g w g:=⟨.inl rfl,FrP.refl _ _⟩
theorem Since.size {w w':World} {lo hi g g':Nat} (h:Since w lo hi g w' g'):w.heap.size≤w'.heap.size:=h.2.size
theorem Since.trans {w a b:World} {lo hi g ga gb:Nat} (h:Since w lo hi g a ga) (k:Since a lo hi ga b gb):Since w lo hi g b gb:=by
 refine ⟨?_,?_⟩
 ·have:=h.2.size
  rcases k.1 with e|e
  ·rcases h.1 with e2|e2
   ·exact .inl (e.trans e2)
   ·exact .inr (by omega)
  ·exact .inr (by omega)
 ·refine ⟨k.2.os.trans h.2.os,k.2.tape.trans h.2.tape,k.2.output.trans h.2.output,Nat.le_trans h.2.size k.2.size,fun i hi hn=>(k.2.block i (Nat.lt_of_lt_of_le hi h.2.size) (fun q=>hn ?_)).trans (h.2.block i hi hn)⟩
  rcases q with q|q
  ·exact .inl q
  ·rcases h.1 with e|e
   ·exact .inr (by omega)
   ·omega
theorem Since.alloc {w a:World} {lo hi g g':Nat} (h:Since w lo hi g a g') (o:Obj):Since w lo hi g (a.alloc o) g':=⟨h.1,h.2.alloc o⟩
theorem Since.set {w a:World} {lo hi g g':Nat} (h:Since w lo hi g a g') (b i:Nat) (v:Value) (hb:(lo≤b∧b<hi)∨w.heap.size≤b):Since w lo hi g (a.setCell ⟨b,i,none⟩ v) g':=
 ⟨h.1,h.2.set b i v (by rcases hb with q|q;exact .inl (.inl q);exact .inr q)⟩
theorem Since.keptS {w a b:World} {lo hi x y g g':Nat} (h:Since w lo hi g a g') (k:Kept x y a b) (hx:lo≤x) (hy:y≤hi):Since w lo hi g b g':=⟨h.1,h.2.trans (frp_kept k (fun i h1 h2=>.inl (by omega)))⟩
theorem Since.any {w a b:World} {lo hi g g':Nat} (h:Since w lo hi g a g') (k:Kept 0 0 a b):Since w lo hi g b g':=⟨h.1,h.2.trans (frp_kept k (by omega))⟩
theorem Since.blk {w w':World} {lo hi g g':Nat} (h:Since w lo hi g w' g') {b:Nat} {cs:Array Value} {ty:TypeId} (hB:Blk w b cs ty) (hb:hi≤b) (hn:b≠g):Blk w' b cs ty:=h.2.blk hB (by unfold own;omega)
theorem Since.ne {w w':World} {lo hi g g':Nat} (h:Since w lo hi g w' g') {b:Nat} (hb:b<w.heap.size) (hn:b≠g):b≠g':=by rcases h.1 with e|e<;>omega
theorem Pl.logs_at {m:Nat} {k s a C:Int} (hC:C=Pl.code k s a) {b1 b2 b3:Bool} (h1:decide ((m:Int)<400)=b1) (h2:(k != 3)=b2) (h3:(C != 0)=b3):Pl.logs m k s a=(b1&&(b2||b3)):=by
 have e:decide (m<400)=decide ((m:Int)<400):=by rw [Bool.eq_iff_iff];simp;omega
 unfold Pl.logs
 rw [←hC,h2,h3,e,h1]
theorem l4Tm_A1 (w:World) (p base g1 g2:Nat) (d0 d1 d2 d3 d4 d5 d6 d7 d10 d11 d12 d13 d14 d15:Value) (xs ys:List Int) (c1 m c2:Nat) (k s a C:Int) (hP:Blk w p #[d0,d1,d2,d3,d4,d5,d6,d7,.slice (some ⟨g1,0,none⟩) 512 c1,.slice (some ⟨g2,0,none⟩) m c2,d10,d11,d12,d13,d14,d15] 72) (h1:Own w g1 xs) (lx:xs.length=512) (hby:Pl.bytesOk xs=true)
  (hO:w.ownsRow base 96 5 (.slice (some ⟨g2,0,none⟩) m c2) m (ys.map (Value.int .i64))) (hp:base≤p) (hg:base≤g1) (n1:p≠g1) (n2:p≠g2) (n3:g1≠g2) (bm:m≤400) (HC:Hid (C=Pl.code k s a)) (hc:(C==0)=false) (hs1:1≤s) (hs2:s≤2) (a0:0≤a) (a1:a≤65535) (hk:(k != 2)=true) :
  Calls prog 74 #[.pointer (some ⟨p,8,none⟩),iv k,iv s,iv a,iv 0] w fun e w'=>∃g3 c3:Nat,e=.returned (.tuple #[iv (Pl.lv xs k s a 0),iv (Pl.code k s a)])∧
   Blk w' p #[d0,d1,d2,d3,d4,d5,d6,d7,.slice (some ⟨g1,0,none⟩) 512 c1,.slice (some ⟨g3,0,none⟩) (Pl.nm m k s a) c3,d10,d11,d12,d13,d14,d15] 72∧Own w' g1 (Pl.nb xs k s a 0)∧w'.ownsRow base 96 5 (.slice (some ⟨g3,0,none⟩) (Pl.nm m k s a) c3) (Pl.nm m k s a) ((Pl.nl xs ys m k s a 0).map (Value.int .i64))∧(g3=g2∨w.heap.size≤g3)∧FrP (fun k=>k=p∨k=g1∨k=g2) w w':=by
 obtain ⟨i,hi0,hz0,hz1,hz2⟩:=info_parts Tryz.infoAcc
 have hcode:¬Pl.code k s a=0:=by rw [←HC.out];simpa using hc
 have E1:Hid (xs=Pl.nb xs k s a 0):=hide (by unfold Pl.nb;rw [if_neg (fun h=>hcode h.1)])
 have E2:Hid (0=Pl.lv xs k s a 0):=hide (by unfold Pl.lv;rw [if_neg (fun h=>hcode h.1)])
 clear hcode
 have PX:=hide hP
 have EX:=hide h1
 have OX:=hide hO
 have KX:=hide (FrP.refl (fun k=>k=p∨k=g1∨k=g2) w)
 have NLEN:=lx
 have t0:=hP.cell (i:=8) rfl
 have t1:=hP.cell (i:=9) rfl
 clear hP h1 hO lx hby
 have g4:(C != 0)=true:=by simpa using hc
 cases gm:decide ((m:Int)<400)
 ·cases g3:(k != 3)
  ·have HL:Hid (Pl.logs m k s a=false):=hide (Pl.logs_at HC.out gm g3 g4)
   have hnm:Hid (Pl.nm m k s a=m):=hide (by unfold Pl.nm;rw [HL.out];rfl)
   have hnl:Hid (Pl.nl xs ys m k s a 0=ys):=hide (by unfold Pl.nl;rw [HL.out];rfl)
   go_enter func74,ntmps74
   go_wp2_with (go_at_call 95;refine st (l4Code k s a _ hs1 hs2 a0 a1) ?_;rw [←HC.out])
   go_ret2
   exact ⟨g2,c2,rII E2.out HC.out,by rw [hnm.out];exact PX.out,by rw [←E1.out];exact EX.out,by rw [hnm.out,hnl.out];exact OX.out,.inl rfl,KX.out⟩
  ·have HL:Hid (Pl.logs m k s a=false):=hide (Pl.logs_at HC.out gm g3 g4)
   have hnm:Hid (Pl.nm m k s a=m):=hide (by unfold Pl.nm;rw [HL.out];rfl)
   have hnl:Hid (Pl.nl xs ys m k s a 0=ys):=hide (by unfold Pl.nl;rw [HL.out];rfl)
   go_enter func74,ntmps74
   go_wp2_with (go_at_call 95;refine st (l4Code k s a _ hs1 hs2 a0 a1) ?_;rw [←HC.out])
   go_ret2
   exact ⟨g2,c2,rII E2.out HC.out,by rw [hnm.out];exact PX.out,by rw [←E1.out];exact EX.out,by rw [hnm.out,hnl.out];exact OX.out,.inl rfl,KX.out⟩
 ·cases g3:(k != 3)
  ·have HL:Hid (Pl.logs m k s a=true):=hide (Pl.logs_at HC.out gm g3 g4)
   have H63:Hid (m+1≤maxLen):=hide (by unfold maxLen;simp at gm;omega)
   have HBT:Hid ((m+1)*40≤140737488355328):=hide (by simp at gm;omega)
   have hnm:Hid (Pl.nm m k s a=m+1):=hide (by unfold Pl.nm;rw [HL.out];rfl)
   have hnl:Hid (Pl.nl xs ys m k s a 0=ys++([k,s,(a:Int),0,C]:List Int)):=hide (by unfold Pl.nl;rw [HL.out,←HC.out,←E2.out];rfl)
   go_enter func74,ntmps74
   go_wp2_with (first|(go_at_call 95;refine st (l4Code k s a _ hs1 hs2 a0 a1) ?_;rw [←HC.out])|(at_builtin;refine wpList_append_lies _ rfl _ _ _ rfl base 96 i _ 5 40 underlying34 hi0 hz0 hz1 hz2 rfl (by omega) (.slice (some ⟨g2,0,none⟩) m c2) m (ys.map (Value.int .i64)) rfl (OX.out.alloc _) ⟨w.heap.size,0,none⟩ 1 1 [iv k,iv s,iv a,iv 0,iv C] rfl rfl (World.news_of_block (cs:=#[iv k,iv s,iv a,iv 0,iv C]) (t:=96) (fr:=(0,0)) (heap_alloc_new w _)) (by simp [Value.oneCell']) (by omega) H63.out HBT.out (by have:=PX.out.lt;simp;omega) (w.heap.size+1) (by simp) ?_))
   intro g3 c3 w1 hown1 hgrow hat hlt
   have lp:=PX.out.lt
   have lg:=EX.out.lt (by rw [NLEN];decide)
   obtain ⟨lg2,lg3⟩:=OX.out.lt g2 rfl
   have P1:Hid (Blk w1 p #[d0,d1,d2,d3,d4,d5,d6,d7,.slice (some ⟨g1,0,none⟩) 512 c1,.slice (some ⟨g2,0,none⟩) m c2,d10,d11,d12,d13,d14,d15] 72):=hide ((hgrow.block p (by simp;omega) (by simp [Value.ownBlock];omega)).trans (PX.out.alloc _))
   have G1:Hid (Own w1 g1 xs):=hide ((EX.out.keptS (kept_alloc _ _) (by omega)).kept hgrow (by simp [Value.ownBlock];omega))
   have y0:=P1.out.cell (i:=8) rfl
   have y1:=P1.out.cell (i:=9) rfl
   have f1:=P1.out.frozen 9
   have O1:=hide hown1
   have K1:Hid (FrP (fun k=>k=p∨k=g1∨k=g2) w w1):=hide ((KX.out.alloc _).grown hgrow (by intro g hg;have h2:g2=g:=Option.some.inj hg;exact .inr (.inr h2.symm)))
   have hsz:=KX.out.size
   have hat2:g2=g3∨g3=w.heap.size+1:=by
    rcases hat with h|h
    ·exact .inl (Option.some.inj h)
    ·exact .inr h
   clear hown1 hgrow hat
   go_wp2_with fail
   go_ret2
   refine ⟨g3,c3,rII E2.out HC.out,by rw [hnm.out];exact P1.out.set 9 _,by rw [←E1.out];exact G1.out.setOther _ _ _ (by omega),?_,by omega,K1.out.set _ _ _ (.inl (.inl rfl))⟩
   rw [hnl.out,hnm.out,List.map_append]
   exact O1.out.kept (grownBy_set _ _ _ _) (.inr (fun e=>by have h3:g3=p:=Option.some.inj e;omega))
  ·have HL:Hid (Pl.logs m k s a=true):=hide (Pl.logs_at HC.out gm g3 g4)
   have H63:Hid (m+1≤maxLen):=hide (by unfold maxLen;simp at gm;omega)
   have HBT:Hid ((m+1)*40≤140737488355328):=hide (by simp at gm;omega)
   have hnm:Hid (Pl.nm m k s a=m+1):=hide (by unfold Pl.nm;rw [HL.out];rfl)
   have hnl:Hid (Pl.nl xs ys m k s a 0=ys++([k,s,(a:Int),0,C]:List Int)):=hide (by unfold Pl.nl;rw [HL.out,←HC.out,←E2.out];rfl)
   go_enter func74,ntmps74
   go_wp2_with (first|(go_at_call 95;refine st (l4Code k s a _ hs1 hs2 a0 a1) ?_;rw [←HC.out])|(at_builtin;refine wpList_append_lies _ rfl _ _ _ rfl base 96 i _ 5 40 underlying34 hi0 hz0 hz1 hz2 rfl (by omega) (.slice (some ⟨g2,0,none⟩) m c2) m (ys.map (Value.int .i64)) rfl (OX.out.alloc _) ⟨w.heap.size,0,none⟩ 1 1 [iv k,iv s,iv a,iv 0,iv C] rfl rfl (World.news_of_block (cs:=#[iv k,iv s,iv a,iv 0,iv C]) (t:=96) (fr:=(0,0)) (heap_alloc_new w _)) (by simp [Value.oneCell']) (by omega) H63.out HBT.out (by have:=PX.out.lt;simp;omega) (w.heap.size+1) (by simp) ?_))
   intro g3 c3 w1 hown1 hgrow hat hlt
   have lp:=PX.out.lt
   have lg:=EX.out.lt (by rw [NLEN];decide)
   obtain ⟨lg2,lg3⟩:=OX.out.lt g2 rfl
   have P1:Hid (Blk w1 p #[d0,d1,d2,d3,d4,d5,d6,d7,.slice (some ⟨g1,0,none⟩) 512 c1,.slice (some ⟨g2,0,none⟩) m c2,d10,d11,d12,d13,d14,d15] 72):=hide ((hgrow.block p (by simp;omega) (by simp [Value.ownBlock];omega)).trans (PX.out.alloc _))
   have G1:Hid (Own w1 g1 xs):=hide ((EX.out.keptS (kept_alloc _ _) (by omega)).kept hgrow (by simp [Value.ownBlock];omega))
   have y0:=P1.out.cell (i:=8) rfl
   have y1:=P1.out.cell (i:=9) rfl
   have f1:=P1.out.frozen 9
   have O1:=hide hown1
   have K1:Hid (FrP (fun k=>k=p∨k=g1∨k=g2) w w1):=hide ((KX.out.alloc _).grown hgrow (by intro g hg;have h2:g2=g:=Option.some.inj hg;exact .inr (.inr h2.symm)))
   have hsz:=KX.out.size
   have hat2:g2=g3∨g3=w.heap.size+1:=by
    rcases hat with h|h
    ·exact .inl (Option.some.inj h)
    ·exact .inr h
   clear hown1 hgrow hat
   go_wp2_with fail
   go_ret2
   refine ⟨g3,c3,rII E2.out HC.out,by rw [hnm.out];exact P1.out.set 9 _,by rw [←E1.out];exact G1.out.setOther _ _ _ (by omega),?_,by omega,K1.out.set _ _ _ (.inl (.inl rfl))⟩
   rw [hnl.out,hnm.out,List.map_append]
   exact O1.out.kept (grownBy_set _ _ _ _) (.inr (fun e=>by have h3:g3=p:=Option.some.inj e;omega))
theorem l4Tm_A2 (w:World) (p base g1 g2:Nat) (d0 d1 d2 d3 d4 d5 d6 d7 d10 d11 d12 d13 d14 d15:Value) (xs ys:List Int) (c1 m c2:Nat) (s a v C:Int) (hP:Blk w p #[d0,d1,d2,d3,d4,d5,d6,d7,.slice (some ⟨g1,0,none⟩) 512 c1,.slice (some ⟨g2,0,none⟩) m c2,d10,d11,d12,d13,d14,d15] 72) (h1:Own w g1 xs) (lx:xs.length=512) (hby:Pl.bytesOk xs=true)
  (hO:w.ownsRow base 96 5 (.slice (some ⟨g2,0,none⟩) m c2) m (ys.map (Value.int .i64))) (hp:base≤p) (hg:base≤g1) (n1:p≠g1) (n2:p≠g2) (n3:g1≠g2) (bm:m≤400) (HC:Hid (C=Pl.code 2 s a)) (hc:(C==0)=false) (hs1:1≤s) (hs2:s≤2) (a0:0≤a) (a1:a≤65535) :
  Calls prog 74 #[.pointer (some ⟨p,8,none⟩),iv 2,iv s,iv a,iv v] w fun e w'=>∃g3 c3:Nat,e=.returned (.tuple #[iv (Pl.lv xs 2 s a v),iv (Pl.code 2 s a)])∧
   Blk w' p #[d0,d1,d2,d3,d4,d5,d6,d7,.slice (some ⟨g1,0,none⟩) 512 c1,.slice (some ⟨g3,0,none⟩) (Pl.nm m 2 s a) c3,d10,d11,d12,d13,d14,d15] 72∧Own w' g1 (Pl.nb xs 2 s a v)∧w'.ownsRow base 96 5 (.slice (some ⟨g3,0,none⟩) (Pl.nm m 2 s a) c3) (Pl.nm m 2 s a) ((Pl.nl xs ys m 2 s a v).map (Value.int .i64))∧(g3=g2∨w.heap.size≤g3)∧FrP (fun k=>k=p∨k=g1∨k=g2) w w':=by
 obtain ⟨i,hi0,hz0,hz1,hz2⟩:=info_parts Tryz.infoAcc
 have hcode:¬Pl.code 2 s a=0:=by rw [←HC.out];simpa using hc
 have E1:Hid (xs=Pl.nb xs 2 s a v):=hide (by unfold Pl.nb;rw [if_neg (fun h=>hcode h.1)])
 have E2:Hid (v=Pl.lv xs 2 s a v):=hide (by unfold Pl.lv;rw [if_neg (fun h=>hcode h.1)])
 clear hcode
 have PX:=hide hP
 have EX:=hide h1
 have OX:=hide hO
 have KX:=hide (FrP.refl (fun k=>k=p∨k=g1∨k=g2) w)
 have NLEN:=lx
 have t0:=hP.cell (i:=8) rfl
 have t1:=hP.cell (i:=9) rfl
 clear hP h1 hO lx hby
 have g4:(C != 0)=true:=by simpa using hc
 cases gm:decide ((m:Int)<400)
 ·have HL:Hid (Pl.logs m 2 s a=false):=hide (Pl.logs_at HC.out gm rfl g4)
  have hnm:Hid (Pl.nm m 2 s a=m):=hide (by unfold Pl.nm;rw [HL.out];rfl)
  have hnl:Hid (Pl.nl xs ys m 2 s a v=ys):=hide (by unfold Pl.nl;rw [HL.out];rfl)
  go_enter func74,ntmps74
  go_wp2_with (go_at_call 95;refine st (l4Code 2 s a _ hs1 hs2 a0 a1) ?_;rw [←HC.out])
  go_ret2
  exact ⟨g2,c2,rII E2.out HC.out,by rw [hnm.out];exact PX.out,by rw [←E1.out];exact EX.out,by rw [hnm.out,hnl.out];exact OX.out,.inl rfl,KX.out⟩
 ·have HL:Hid (Pl.logs m 2 s a=true):=hide (Pl.logs_at HC.out gm rfl g4)
  have H63:Hid (m+1≤maxLen):=hide (by unfold maxLen;simp at gm;omega)
  have HBT:Hid ((m+1)*40≤140737488355328):=hide (by simp at gm;omega)
  have hnm:Hid (Pl.nm m 2 s a=m+1):=hide (by unfold Pl.nm;rw [HL.out];rfl)
  have hnl:Hid (Pl.nl xs ys m 2 s a v=ys++([2,s,(a:Int),v,C]:List Int)):=hide (by unfold Pl.nl;rw [HL.out,←HC.out,←E2.out];rfl)
  go_enter func74,ntmps74
  go_wp2_with (first|(go_at_call 95;refine st (l4Code 2 s a _ hs1 hs2 a0 a1) ?_;rw [←HC.out])|(at_builtin;refine wpList_append_lies _ rfl _ _ _ rfl base 96 i _ 5 40 underlying34 hi0 hz0 hz1 hz2 rfl (by omega) (.slice (some ⟨g2,0,none⟩) m c2) m (ys.map (Value.int .i64)) rfl (OX.out.alloc _) ⟨w.heap.size,0,none⟩ 1 1 [iv 2,iv s,iv a,iv v,iv C] rfl rfl (World.news_of_block (cs:=#[iv 2,iv s,iv a,iv v,iv C]) (t:=96) (fr:=(0,0)) (heap_alloc_new w _)) (by simp [Value.oneCell']) (by omega) H63.out HBT.out (by have:=PX.out.lt;simp;omega) (w.heap.size+1) (by simp) ?_))
  intro g3 c3 w1 hown1 hgrow hat hlt
  have lp:=PX.out.lt
  have lg:=EX.out.lt (by rw [NLEN];decide)
  obtain ⟨lg2,lg3⟩:=OX.out.lt g2 rfl
  have P1:Hid (Blk w1 p #[d0,d1,d2,d3,d4,d5,d6,d7,.slice (some ⟨g1,0,none⟩) 512 c1,.slice (some ⟨g2,0,none⟩) m c2,d10,d11,d12,d13,d14,d15] 72):=hide ((hgrow.block p (by simp;omega) (by simp [Value.ownBlock];omega)).trans (PX.out.alloc _))
  have G1:Hid (Own w1 g1 xs):=hide ((EX.out.keptS (kept_alloc _ _) (by omega)).kept hgrow (by simp [Value.ownBlock];omega))
  have y0:=P1.out.cell (i:=8) rfl
  have y1:=P1.out.cell (i:=9) rfl
  have f1:=P1.out.frozen 9
  have O1:=hide hown1
  have K1:Hid (FrP (fun k=>k=p∨k=g1∨k=g2) w w1):=hide ((KX.out.alloc _).grown hgrow (by intro g hg;have h2:g2=g:=Option.some.inj hg;exact .inr (.inr h2.symm)))
  have hsz:=KX.out.size
  have hat2:g2=g3∨g3=w.heap.size+1:=by
   rcases hat with h|h
   ·exact .inl (Option.some.inj h)
   ·exact .inr h
  clear hown1 hgrow hat
  go_wp2_with fail
  go_ret2
  refine ⟨g3,c3,rII E2.out HC.out,by rw [hnm.out];exact P1.out.set 9 _,by rw [←E1.out];exact G1.out.setOther _ _ _ (by omega),?_,by omega,K1.out.set _ _ _ (.inl (.inl rfl))⟩
  rw [hnl.out,hnm.out,List.map_append]
  exact O1.out.kept (grownBy_set _ _ _ _) (.inr (fun e=>by have h3:g3=p:=Option.some.inj e;omega))
end Go.Proofs.YtkkmnnhaailkcaaGreat
