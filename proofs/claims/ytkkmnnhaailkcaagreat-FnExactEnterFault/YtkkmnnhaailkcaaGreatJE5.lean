/- Part 5 of what the last text leans on. -/
import Derived.Test.YtkkmnnhaailkcaaGreatJE4
import Derived.Test.YtkkmnnhaailkcaaGreatJE1
import Derived.Deep.DeepCutAuto
import Derived.Test.YtkkmnnhaailkcaaGreatJE3
import Derived.Deep.RegionHeld3
import Derived.Test.YtkkmnnhaailkcaaGreatJE2
import Derived.Laws.CopyOwn
import Derived.Laws.Rows
import Derived.Laws.Tables
import Derived.Deep.WholeRow
import Derived.Deep.RegionLawGrows
set_option maxRecDepth 100000
set_option maxHeartbeats 16000000
namespace Go.Proofs.YtkkmnnhaailkcaaGreat
open Go.RowKit Go.Proofs.Tryz
set_option linter.unusedVariables false
theorem l4Own (w:World) (a b:Option Addr) (ca cb m:Nat) (xs ys:List Int) (ha:IRow w a xs) (hb:IRow w b ys) (lx:xs.length≤2000000) (ly:ys.length=5*m) (bm:m≤2000000) (x0:0<xs.length) :
  Calls prog 93 #[.agg #[.slice a xs.length ca,.slice b m cb]] w fun e w'=>∃(g1 c1 g2 c2:Nat),e=.returned (.agg #[.slice (some ⟨g1,0,none⟩) xs.length c1,.slice (some ⟨g2,0,none⟩) m c2])∧w'.ownsRow w.heap.size 3 1 (.slice (some ⟨g1,0,none⟩) xs.length c1) xs.length (xs.map (Value.int .i64))∧w'.ownsRow w.heap.size 96 5 (.slice (some ⟨g2,0,none⟩) m c2) m (ys.map (Value.int .i64))∧g1≠g2∧Kept 0 0 w w':=by
 obtain ⟨ga,oa,rfl,_⟩:=ha 0 x0
 by_cases h0:m=0
 ·subst h0
  obtain rfl:ys=[]:=List.eq_nil_of_length_eq_zero (by omega)
  cases b with
  | none=>exact l4Own_nil w ga oa ca cb xs ha lx x0
  | some ad=>exact l4Own_none w ga oa ad.block ad.off ad.spot ca cb xs ha lx x0
 ·obtain ⟨gb,ob,rfl,_⟩:=hb 0 (by omega)
  refine (l4Own_log w ga oa gb ob ca cb m xs ys ha hb lx ly bm x0 (by omega)).mono ?_
  rintro e w' ⟨g1,c1,g2,c2,rfl,o1,o2,hl,kk⟩
  exact ⟨g1,c1,g2,c2,rfl,o1,o2,by omega,kk⟩
def cpuC (c:Pl.Cp) (gd cd ga ca g1 c1 g2 c2:Nat):Array Value:=#[.slice (some ⟨gd,0,none⟩) 4 cd,.slice (some ⟨ga,0,none⟩) 4 ca,iv c.r.o,iv c.r.p,iv c.r.f,iv c.r.m,.bool c.r.s,.bool c.r.t,.slice (some ⟨g1,0,none⟩) 512 c1,.slice (some ⟨g2,0,none⟩) c.bm c2,.bool c.st,.bool c.ha]
structure CO (w:World) (lo mid:Nat) (c:Pl.Cp) (gd ga g1 g2 c2:Nat):Prop where
 d:Own w gd c.r.xs
 a:Own w ga c.r.ys
 b:Own w g1 c.bx
 l:w.ownsRow mid 96 5 (.slice (some ⟨g2,0,none⟩) c.bm c2) c.bm (c.bl.map (Value.int .i64))
 d0:lo≤gd
 d1:gd<mid
 a0:lo≤ga
 a1:ga<mid
 da:gd≠ga
 b0:mid≤g1
 b1:g1<w.heap.size
 bl:g1≠g2
theorem CO.any {w w':World} {lo mid gd ga g1 g2 c2:Nat} {c:Pl.Cp} (h:CO w lo mid c gd ga g1 g2 c2) (k:Kept 0 0 w w'):CO w' lo mid c gd ga g1 g2 c2:=
 ⟨h.d.keptS k (by omega),h.a.keptS k (by omega),h.b.keptS k (by omega),ownsRow_keptS h.l k (by omega),h.d0,h.d1,h.a0,h.a1,h.da,h.b0,Nat.lt_of_lt_of_le h.b1 k.size,h.bl⟩
theorem slotIn_some {w:World} {lo hi:Nat} {a:Option Addr} {xs:List Int} (h:SlotIn w lo hi a xs) (hx:0<xs.length):∃g,a=some ⟨g,0,none⟩∧lo≤g∧g<hi∧Own w g xs:=by
 rcases h with ⟨_,e⟩|h
 ·rw [e] at hx;exact absurd hx (Nat.lt_irrefl 0)
 ·exact h
theorem own4 (w:World) (r:Pl.Rg) (a b:Option Addr) (ca cb:Nat) (ha:IRow w a r.xs) (hb:IRow w b r.ys) (h4:r.xs.length=4) (h5:r.ys.length=4) :
  Calls prog 92 #[.agg #[.slice a 4 ca,.slice b 4 cb,iv r.o,iv r.p,iv r.f,iv r.m,.bool r.s,.bool r.t]] w fun e w'=>∃gd cd ga cA:Nat,e=.returned (regV r gd cd ga cA)∧Own w' gd r.xs∧Own w' ga r.ys∧w.heap.size≤gd∧gd<w'.heap.size∧w.heap.size≤ga∧ga<w'.heap.size∧gd≠ga∧Kept 0 0 w w':=by
 have h:=specOwn w r a b ca cb ha hb (by omega) (by omega)
 rw [h4,h5] at h
 refine h.mono ?_
 rintro e w' ⟨a',b',ca',cb',rfl,⟨s1,s2,s3⟩,k⟩
 obtain ⟨gd,rfl,d0,d1,od⟩:=slotIn_some s1 (by omega)
 obtain ⟨ga,rfl,a0,a1,oa⟩:=slotIn_some s2 (by omega)
 exact ⟨gd,ca',ga,cb',rfl,od,oa,d0,d1,a0,a1,fun q=>s3 gd rfl (by rw [q];rfl),k⟩
theorem bus4 (w:World) (a b:Option Addr) (ca cb m:Nat) (xs ys:List Int) (ha:IRow w a xs) (hb:IRow w b ys) (lx:xs.length=512) (ly:ys.length=5*m) (bm:m≤400) :
  Calls prog 93 #[.agg #[.slice a 512 ca,.slice b m cb]] w fun e w'=>∃g1 c1 g2 c2:Nat,e=.returned (.agg #[.slice (some ⟨g1,0,none⟩) 512 c1,.slice (some ⟨g2,0,none⟩) m c2])∧Own w' g1 xs∧w'.ownsRow w.heap.size 96 5 (.slice (some ⟨g2,0,none⟩) m c2) m (ys.map (Value.int .i64))∧w.heap.size≤g1∧g1<w'.heap.size∧g1≠g2∧Kept 0 0 w w':=by
 have h:=l4Own w a b ca cb m xs ys ha hb (by omega) ly (by omega) (by omega)
 rw [lx] at h
 refine h.mono ?_
 rintro e w' ⟨g1,c1,g2,c2,rfl,o1,o2,hn,k⟩
 have q:=o1.lt g1 rfl
 have e1:=own_of_row (xs:=xs) (by rw [←lx] at o1;exact lx ▸ o1)
 exact ⟨g1,c1,g2,c2,rfl,e1,o2,q.1,q.2,hn,k⟩
theorem s12_0 (a0 a1 a2 a3 a4 a5 a6 a7 a8 a9 a10 a11 v:Value):(#[a0,a1,a2,a3,a4,a5,a6,a7,a8,a9,a10,a11]:Array Value).setIfInBounds 0 v=#[v,a1,a2,a3,a4,a5,a6,a7,a8,a9,a10,a11]:=rfl
theorem s12_1 (a0 a1 a2 a3 a4 a5 a6 a7 a8 a9 a10 a11 v:Value):(#[a0,a1,a2,a3,a4,a5,a6,a7,a8,a9,a10,a11]:Array Value).setIfInBounds 1 v=#[a0,v,a2,a3,a4,a5,a6,a7,a8,a9,a10,a11]:=rfl
theorem s12_2 (a0 a1 a2 a3 a4 a5 a6 a7 a8 a9 a10 a11 v:Value):(#[a0,a1,a2,a3,a4,a5,a6,a7,a8,a9,a10,a11]:Array Value).setIfInBounds 2 v=#[a0,a1,v,a3,a4,a5,a6,a7,a8,a9,a10,a11]:=rfl
theorem s12_3 (a0 a1 a2 a3 a4 a5 a6 a7 a8 a9 a10 a11 v:Value):(#[a0,a1,a2,a3,a4,a5,a6,a7,a8,a9,a10,a11]:Array Value).setIfInBounds 3 v=#[a0,a1,a2,v,a4,a5,a6,a7,a8,a9,a10,a11]:=rfl
theorem s12_4 (a0 a1 a2 a3 a4 a5 a6 a7 a8 a9 a10 a11 v:Value):(#[a0,a1,a2,a3,a4,a5,a6,a7,a8,a9,a10,a11]:Array Value).setIfInBounds 4 v=#[a0,a1,a2,a3,v,a5,a6,a7,a8,a9,a10,a11]:=rfl
theorem s12_5 (a0 a1 a2 a3 a4 a5 a6 a7 a8 a9 a10 a11 v:Value):(#[a0,a1,a2,a3,a4,a5,a6,a7,a8,a9,a10,a11]:Array Value).setIfInBounds 5 v=#[a0,a1,a2,a3,a4,v,a6,a7,a8,a9,a10,a11]:=rfl
theorem s12_6 (a0 a1 a2 a3 a4 a5 a6 a7 a8 a9 a10 a11 v:Value):(#[a0,a1,a2,a3,a4,a5,a6,a7,a8,a9,a10,a11]:Array Value).setIfInBounds 6 v=#[a0,a1,a2,a3,a4,a5,v,a7,a8,a9,a10,a11]:=rfl
theorem s12_7 (a0 a1 a2 a3 a4 a5 a6 a7 a8 a9 a10 a11 v:Value):(#[a0,a1,a2,a3,a4,a5,a6,a7,a8,a9,a10,a11]:Array Value).setIfInBounds 7 v=#[a0,a1,a2,a3,a4,a5,a6,v,a8,a9,a10,a11]:=rfl
theorem CO.over {w w':World} {b mid gd ga g1 g2 c2:Nat} {c:Pl.Cp} (h:CO w (b+2) mid c gd ga g1 g2 c2) (k:Kept b (b+2) w w'):CO w' b mid c gd ga g1 g2 c2:=by
 have q:=h.l.lt g2 rfl
 have:=h.d0;have:=h.d1;have:=h.b0;have:=h.a0;have:=h.a1
 exact ⟨h.d.keptS k (by omega),h.a.keptS k (by omega),h.b.keptS k (by omega),ownsRow_keptS h.l k (by omega),by omega,h.d1,by omega,h.a1,h.da,h.b0,Nat.lt_of_lt_of_le h.b1 k.size,h.bl⟩
theorem mOwn (w:World) (c:Pl.Cp) (a b e q:Option Addr) (ca cb ce cq:Nat) (ha:IRow w a c.r.xs) (hb:IRow w b c.r.ys) (he:IRow w e c.bx) (hq:IRow w q c.bl) (h4:c.r.xs.length=4) (h5:c.r.ys.length=4) (hx:c.bx.length=512) (hl:c.bl.length=5*c.bm) (hm:c.bm≤400) :
  Calls prog 71 #[.agg #[.slice a 4 ca,.slice b 4 cb,iv c.r.o,iv c.r.p,iv c.r.f,iv c.r.m,.bool c.r.s,.bool c.r.t,.slice e 512 ce,.slice q c.bm cq,.bool c.st,.bool c.ha]] w fun r w'=>∃gd cd ga cA g1 c1 g2 c2 mid:Nat,r=.returned (.agg (cpuC c gd cd ga cA g1 c1 g2 c2))∧CO w' w.heap.size mid c gd ga g1 g2 c2∧Kept 0 0 w w':=by
 have K0:=hide (kept_new (kept_alloc w (.cells #[.slice a 4 ca,.slice b 4 cb,iv c.r.o,iv c.r.p,iv c.r.f,iv c.r.m,.bool c.r.s,.bool c.r.t,.slice e 512 ce,.slice q c.bm cq,.bool c.st,.bool c.ha] 38)) (.cells cpZ 38))
 have BA:=(Blk.new w #[.slice a 4 ca,.slice b 4 cb,iv c.r.o,iv c.r.p,iv c.r.f,iv c.r.m,.bool c.r.s,.bool c.r.t,.slice e 512 ce,.slice q c.bm cq,.bool c.st,.bool c.ha] 38).alloc (.cells cpZ 38)
 have BO:=Blk.new (w.alloc (.cells #[.slice a 4 ca,.slice b 4 cb,iv c.r.o,iv c.r.p,iv c.r.f,iv c.r.m,.bool c.r.s,.bool c.r.t,.slice e 512 ce,.slice q c.bm cq,.bool c.st,.bool c.ha] 38)) cpZ 38
 simp only [World.size_alloc] at BO
 obtain ⟨X,hX⟩:∃X:World,(w.alloc (.cells #[.slice a 4 ca,.slice b 4 cb,iv c.r.o,iv c.r.p,iv c.r.f,iv c.r.m,.bool c.r.s,.bool c.r.t,.slice e 512 ce,.slice q c.bm cq,.bool c.st,.bool c.ha] 38)).alloc (.cells cpZ 38)=X:=⟨_,rfl⟩
 rw [hX] at K0 BA BO
 have HBA:=hide BA
 have HBO:=hide BO
 have HA:=hide (ha.keptS K0.out)
 have HB:=hide (hb.keptS K0.out)
 have HE:=hide he
 have HQ:=hide hq
 have hxs:=K0.out.size
 clear BA BO ha hb he hq
 have i0:=HBA.out.all
 have if0:=HBA.out.fz
 go_enter func71,ntmps71
 go_wp2_with (go_at_call 92;refine (own4 _ c.r a b ca cb HA.out HB.out h4 h5).mono ?_;unfold regV;rintro e9 W1 ⟨gd,cd,ga,cA,rfl,od,oa,d0,d1,a0,a1,da,k9⟩;have HD1:=hide od;have HA1:=hide oa;have K1:=hide (K0.out.trans k9);have HI1:=hide (HBA.out.kept0 k9);have HO1:=hide (HBO.out.kept0 k9);clear k9 od oa i0 if0;have i0:=HI1.out.cell (i:=0) rfl;have if0:=HI1.out.frozen 0;have i1:=HI1.out.cell (i:=1) rfl;have if1:=HI1.out.frozen 1;have i2:=HI1.out.cell (i:=2) rfl;have if2:=HI1.out.frozen 2;have i3:=HI1.out.cell (i:=3) rfl;have if3:=HI1.out.frozen 3;have i4:=HI1.out.cell (i:=4) rfl;have if4:=HI1.out.frozen 4;have i5:=HI1.out.cell (i:=5) rfl;have if5:=HI1.out.frozen 5;have i6:=HI1.out.cell (i:=6) rfl;have if6:=HI1.out.frozen 6;have i7:=HI1.out.cell (i:=7) rfl;have if7:=HI1.out.frozen 7;have i8:=HI1.out.cell (i:=8) rfl;have if8:=HI1.out.frozen 8;have i9:=HI1.out.cell (i:=9) rfl;have if9:=HI1.out.frozen 9;have i10:=HI1.out.cell (i:=10) rfl;have if10:=HI1.out.frozen 10;have i11:=HI1.out.cell (i:=11) rfl;have if11:=HI1.out.frozen 11)
 have K8:=MB.kept8 (w:=W1) (p:=w.heap.size) (.slice (some ⟨gd,0,none⟩) 4 cd) (.slice (some ⟨ga,0,none⟩) 4 cA) (iv c.r.o) (iv c.r.p) (iv c.r.f) (iv c.r.m) (.bool c.r.s) (.bool c.r.t)
 have HI2:Blk ((((((((W1.setCell ⟨w.heap.size,0,none⟩ (.slice (some ⟨gd,0,none⟩) 4 cd)).setCell ⟨w.heap.size,1,none⟩ (.slice (some ⟨ga,0,none⟩) 4 cA)).setCell ⟨w.heap.size,2,none⟩ (iv c.r.o)).setCell ⟨w.heap.size,3,none⟩ (iv c.r.p)).setCell ⟨w.heap.size,4,none⟩ (iv c.r.f)).setCell ⟨w.heap.size,5,none⟩ (iv c.r.m)).setCell ⟨w.heap.size,6,none⟩ (.bool c.r.s)).setCell ⟨w.heap.size,7,none⟩ (.bool c.r.t)) w.heap.size #[.slice (some ⟨gd,0,none⟩) 4 cd,.slice (some ⟨ga,0,none⟩) 4 cA,iv c.r.o,iv c.r.p,iv c.r.f,iv c.r.m,.bool c.r.s,.bool c.r.t,.slice e 512 ce,.slice q c.bm cq,.bool c.st,.bool c.ha] 38:=by
  have z:=(((((((HI1.out.set 0 (.slice (some ⟨gd,0,none⟩) 4 cd)).set 1 (.slice (some ⟨ga,0,none⟩) 4 cA)).set 2 (iv c.r.o)).set 3 (iv c.r.p)).set 4 (iv c.r.f)).set 5 (iv c.r.m)).set 6 (.bool c.r.s)).set 7 (.bool c.r.t)
  rw [s12_0,s12_1,s12_2,s12_3,s12_4,s12_5,s12_6,s12_7] at z
  exact z
 generalize ((((((((W1.setCell ⟨w.heap.size,0,none⟩ (.slice (some ⟨gd,0,none⟩) 4 cd)).setCell ⟨w.heap.size,1,none⟩ (.slice (some ⟨ga,0,none⟩) 4 cA)).setCell ⟨w.heap.size,2,none⟩ (iv c.r.o)).setCell ⟨w.heap.size,3,none⟩ (iv c.r.p)).setCell ⟨w.heap.size,4,none⟩ (iv c.r.f)).setCell ⟨w.heap.size,5,none⟩ (iv c.r.m)).setCell ⟨w.heap.size,6,none⟩ (.bool c.r.s)).setCell ⟨w.heap.size,7,none⟩ (.bool c.r.t))=Y at K8 HI2 ⊢
 have hX2:X.heap.size=w.heap.size+2:=by rw [←hX];simp
 have ds:=K8.size
 have KY:=hide (kept_over K1.out K8 (Nat.le_refl _))
 have HDY:=hide (HD1.out.keptS K8 (by omega))
 have HAY:=hide (HA1.out.keptS K8 (by omega))
 have HOY:=hide (Blk.kept HO1.out K8 (by omega))
 have HIY:=hide HI2
 have HEY:=hide (HE.out.keptS KY.out)
 have HQY:=hide (HQ.out.keptS KY.out)
 have HX2:=hide hX2
 have hs1:=HO1.out.lt
 clear K8 HI2 hX2 hX i0 if0
 have hdd:=HDY.out.lt (by rw [h4];decide)
 refine (bus4 _ e q ce cq c.bm c.bx c.bl HEY.out HQY.out hx hl hm).mono ?_
 rintro e9 W2 ⟨g1,c1,g2,c2,rfl,ob,ol,b0,b1,bn,k9⟩
 have HCO:Hid (CO W2 (w.heap.size+2) Y.heap.size c gd ga g1 g2 c2):=hide ⟨HDY.out.keptS k9 (by omega),HAY.out.keptS k9 (by omega),ob,ol,by have:=HX2.out;omega,by omega,by have:=HX2.out;omega,by omega,da,b0,b1,bn⟩
 have K2:=hide (KY.out.trans k9)
 have HI3:=hide (HIY.out.kept0 k9)
 have HO3:=hide (HOY.out.kept0 k9)
 have hs3:=HO3.out.lt
 clear ob ol k9
 have i0:=HI3.out.all
 have if0:=HI3.out.fz
 have o0:=HO3.out.all
 have of0:=HO3.out.fz
 go_wp2_with fail
 refine bodyPost_ret (v:=.agg (cpuC c gd cd ga cA g1 c1 g2 c2)) ?_ rfl ⟨gd,cd,ga,cA,g1,c1,g2,c2,Y.heap.size,rfl,HCO.out.over ?kk,?kw⟩
 case kk=>repeat (first|with_reducible exact Kept.refl _ _ _|refine kept_set ?_ _ _ _ (.inl (by omega)))
 case kw=>repeat (first|with_reducible exact K2.out|refine kept_set ?_ _ _ _ (.inr (by omega)))
 rw [results_one rfl];go_simp;rfl
theorem mStart (w:World) (c:Pl.Cp) (a b e q:Option Addr) (ca cb ce cq:Nat) (ha:IRow w a c.r.xs) (hb:IRow w b c.r.ys) (he:IRow w e c.bx) (hq:IRow w q c.bl) (h4:c.r.xs.length=4) (h5:c.r.ys.length=4) (hx:c.bx.length=512) (hl:c.bl.length=5*c.bm) (hm:c.bm≤400) :
  Calls prog 37 #[.agg #[.slice a 4 ca,.slice b 4 cb,iv c.r.o,iv c.r.p,iv c.r.f,iv c.r.m,.bool c.r.s,.bool c.r.t,.slice e 512 ce,.slice q c.bm cq,.bool c.st,.bool c.ha]] w fun r w'=>∃mid p g2:Nat,r=.returned (.pointer (some ⟨p,0,none⟩))∧MAt w' w.heap.size mid w'.heap.size p g2 (Pl.Mc.ofC c)∧w.heap.size≤p∧Kept 0 0 w w':=by
 have K0:=hide (kept_alloc w (.cells #[.slice a 4 ca,.slice b 4 cb,iv c.r.o,iv c.r.p,iv c.r.f,iv c.r.m,.bool c.r.s,.bool c.r.t,.slice e 512 ce,.slice q c.bm cq,.bool c.st,.bool c.ha] 38))
 have BA:=Blk.new w #[.slice a 4 ca,.slice b 4 cb,iv c.r.o,iv c.r.p,iv c.r.f,iv c.r.m,.bool c.r.s,.bool c.r.t,.slice e 512 ce,.slice q c.bm cq,.bool c.st,.bool c.ha] 38
 obtain ⟨X,hX⟩:∃X:World,w.alloc (.cells #[.slice a 4 ca,.slice b 4 cb,iv c.r.o,iv c.r.p,iv c.r.f,iv c.r.m,.bool c.r.s,.bool c.r.t,.slice e 512 ce,.slice q c.bm cq,.bool c.st,.bool c.ha] 38)=X:=⟨_,rfl⟩
 rw [hX] at K0 BA
 have HBA:=hide BA
 have HA:=hide (ha.keptS K0.out)
 have HB:=hide (hb.keptS K0.out)
 have HE:=hide (he.keptS K0.out)
 have HQ:=hide (hq.keptS K0.out)
 have hxs:=K0.out.size
 clear BA ha hb he hq
 have i0:=HBA.out.all
 go_enter func37,ntmps37
 go_wp2_with (go_at_call 71;refine (mOwn _ c a b e q ca cb ce cq HA.out HB.out HE.out HQ.out h4 h5 hx hl hm).mono ?_;unfold cpuC;rintro e9 W ⟨gd,cd,ga,cA,g1,c1,g2,c2,mid,rfl,hc9,k9⟩;have HC:=hide hc9;have HK:=hide (K0.out.trans k9);have HKW:=hide k9;clear hc9 k9)
 go_ret
 have hC1:=(HC.out.any (kept_alloc W (.cells #[.slice (some ⟨gd,0,none⟩) 4 cd,.slice (some ⟨ga,0,none⟩) 4 cA,iv c.r.o,iv c.r.p,iv c.r.f,iv c.r.m,.bool c.r.s,.bool c.r.t,.slice (some ⟨g1,0,none⟩) 512 c1,.slice (some ⟨g2,0,none⟩) c.bm c2,.bool c.st,.bool c.ha] 38)))
 have hBm:=Blk.new (W.alloc (.cells #[.slice (some ⟨gd,0,none⟩) 4 cd,.slice (some ⟨ga,0,none⟩) 4 cA,iv c.r.o,iv c.r.p,iv c.r.f,iv c.r.m,.bool c.r.s,.bool c.r.t,.slice (some ⟨g1,0,none⟩) 512 c1,.slice (some ⟨g2,0,none⟩) c.bm c2,.bool c.st,.bool c.ha] 38)) (mcells (Pl.Mc.ofC c) gd cd ga cA g1 c1 g2 c2) 72
 have hC2:=hC1.any (kept_alloc (W.alloc (.cells #[.slice (some ⟨gd,0,none⟩) 4 cd,.slice (some ⟨ga,0,none⟩) 4 cA,iv c.r.o,iv c.r.p,iv c.r.f,iv c.r.m,.bool c.r.s,.bool c.r.t,.slice (some ⟨g1,0,none⟩) 512 c1,.slice (some ⟨g2,0,none⟩) c.bm c2,.bool c.st,.bool c.ha] 38)) (.cells (mcells (Pl.Mc.ofC c) gd cd ga cA g1 c1 g2 c2) 72))
 have hg2:=hC1.l.lt g2 rfl
 have hsz:=HKW.out.size
 have hd0:=HC.out.d0
 have hd1:=HC.out.d1
 have hb0:=HC.out.b0
 have hb1:=HC.out.b1
 have ha0:=HC.out.a0
 simp only [World.size_alloc] at hBm hg2
 refine ⟨mid,W.heap.size+1,g2,rfl,⟨gd,cd,ga,cA,g1,c1,c2,hBm,⟨hC2.d,hC2.a,hC2.b,hC2.l,by omega,hC2.d1,by omega,hC2.a1,hC2.da,by omega,hC2.b0,by omega,by omega,by simp,by simp;omega,hC2.bl,Nat.le_refl _⟩⟩,by omega,kept_new (kept_new HK.out _) _⟩
theorem kept12 (w:World) (b:Nat) (v0 v1 v2 v3 v4 v5 v6 v7 v8 v9 v10 v11:Value):Kept b (b+1) w ((((((((((((w.setCell ⟨b,0,none⟩ v0).setCell ⟨b,1,none⟩ v1).setCell ⟨b,2,none⟩ v2).setCell ⟨b,3,none⟩ v3).setCell ⟨b,4,none⟩ v4).setCell ⟨b,5,none⟩ v5).setCell ⟨b,6,none⟩ v6).setCell ⟨b,7,none⟩ v7).setCell ⟨b,8,none⟩ v8).setCell ⟨b,9,none⟩ v9).setCell ⟨b,10,none⟩ v10).setCell ⟨b,11,none⟩ v11):=((((((((((((kept_one w b 0 v0).one 1 v1).one 2 v2).one 3 v3).one 4 v4).one 5 v5).one 6 v6).one 7 v7).one 8 v8).one 9 v9).one 10 v10).one 11 v11)
theorem CO.past {w w':World} {lo' lo b mid gd ga g1 g2 c2:Nat} {c:Pl.Cp} (h:CO w lo' mid c gd ga g1 g2 c2) (hl:b+1≤lo') (hb:lo≤b) (k:Kept b (b+1) w w'):CO w' lo mid c gd ga g1 g2 c2:=by
 have q:=h.l.lt g2 rfl
 have:=h.d0;have:=h.d1;have:=h.b0;have:=h.a0;have:=h.a1
 exact ⟨h.d.keptS k (by omega),h.a.keptS k (by omega),h.b.keptS k (by omega),ownsRow_keptS h.l k (by omega),by omega,h.d1,by omega,h.a1,h.da,h.b0,Nat.lt_of_lt_of_le h.b1 k.size,h.bl⟩
theorem cellsM {W:World} {p gd cd ga ca g1 c1 g2 c2:Nat} {c:Pl.Mc} (hB:MB W p gd cd ga ca g1 c1 g2 c2 c):W.cell? ⟨p,0,none⟩=some (.slice (some ⟨gd,0,none⟩) 4 cd)∧W.cell? ⟨p,1,none⟩=some (.slice (some ⟨ga,0,none⟩) 4 ca)∧W.cell? ⟨p,2,none⟩=some (iv c.r.o)∧W.cell? ⟨p,3,none⟩=some (iv c.r.p)∧W.cell? ⟨p,4,none⟩=some (iv c.r.f)∧W.cell? ⟨p,5,none⟩=some (iv c.r.m)∧W.cell? ⟨p,6,none⟩=some (.bool c.r.s)∧W.cell? ⟨p,7,none⟩=some (.bool c.r.t)∧W.cell? ⟨p,8,none⟩=some (.slice (some ⟨g1,0,none⟩) 512 c1)∧W.cell? ⟨p,9,none⟩=some (.slice (some ⟨g2,0,none⟩) c.bm c2)∧W.cell? ⟨p,10,none⟩=some (.bool c.st):=by
 obtain ⟨t0,t1,t2,t3,t4,t5,t6,t7,t8,t9,t10,_⟩:=hB.cells
 exact ⟨t0,t1,t2,t3,t4,t5,t6,t7,t8,t9,t10⟩
theorem mCpuR (w:World) (p gd cd ga ca g1 c1 g2 c2:Nat) (c:Pl.Mc) (h:MB w p gd cd ga ca g1 c1 g2 c2 c) (rd:IRow w (some ⟨gd,0,none⟩) c.r.xs) (ra:IRow w (some ⟨ga,0,none⟩) c.r.ys) (rb:IRow w (some ⟨g1,0,none⟩) c.bx) (rl:IRow w (some ⟨g2,0,none⟩) c.bl) (h4:c.r.xs.length=4) (h5:c.r.ys.length=4) (hx:c.bx.length=512) (hl:c.bl.length=5*c.bm) (hm:c.bm≤400) :
  Calls prog 43 #[.pointer (some ⟨p,0,none⟩)] w fun r w'=>∃gd' cd' ga' cA' g1' c1' g2' c2' mid':Nat,r=.returned (.agg (cpuC (c.cpu false) gd' cd' ga' cA' g1' c1' g2' c2'))∧CO w' w.heap.size mid' (c.cpu false) gd' ga' g1' g2' c2'∧Kept 0 0 w w':=by
 have K0:=hide (kept_alloc w (.cells cpZ 38))
 have BA:=Blk.new w cpZ 38
 have hpw:p<w.heap.size:=h.lt
 obtain ⟨X,hX⟩:∃X:World,w.alloc (.cells cpZ 38)=X:=⟨_,rfl⟩
 rw [hX] at K0 BA
 have KD:=hide (kept_drew K0.out)
 have HBO:=hide (BA.kept0 (kept_drew (Kept.refl 0 0 X)))
 have HB:=hide (h.any KD.out)
 have S0:=cellsM HB.out
 have HAd:=hide (rd.keptS KD.out)
 have HAa:=hide (ra.keptS KD.out)
 have HAb:=hide (rb.keptS KD.out)
 have HAl:=hide (rl.keptS KD.out)
 clear BA h rd ra rb rl
 obtain ⟨u0,u1,u2,u3,u4,u5,u6,u7,u8,u9,u10⟩:=S0
 have S0:=cellsM HB.out
 have HNE:Hid (¬(w.heap.size≤p∧p<w.heap.size+1)):=hide (by omega)
 go_enter func43,ntmps43
 go_wp2_with fail
 go_region_held3 (fun w'=>w'.cell? ⟨p,0,none⟩=some (.slice (some ⟨gd,0,none⟩) 4 cd)∧w'.cell? ⟨p,1,none⟩=some (.slice (some ⟨ga,0,none⟩) 4 ca)∧w'.cell? ⟨p,2,none⟩=some (iv c.r.o)∧w'.cell? ⟨p,3,none⟩=some (iv c.r.p)∧w'.cell? ⟨p,4,none⟩=some (iv c.r.f)∧w'.cell? ⟨p,5,none⟩=some (iv c.r.m)∧w'.cell? ⟨p,6,none⟩=some (.bool c.r.s)∧w'.cell? ⟨p,7,none⟩=some (.bool c.r.t)∧w'.cell? ⟨p,8,none⟩=some (.slice (some ⟨g1,0,none⟩) 512 c1)∧w'.cell? ⟨p,9,none⟩=some (.slice (some ⟨g2,0,none⟩) c.bm c2)∧w'.cell? ⟨p,10,none⟩=some (.bool c.st)) (first|with_reducible exact S0|with_reducible exact cellsM HB2.out|exact cellsM (Blk.kept HB2.out (kept12 _ _ _ _ _ _ _ _ _ _ _ _ _ _) HNE.out)|go_keep) (first|(go_at_call 71;refine (mOwn _ (c.cpu false) _ _ _ _ cd ca c1 c2 HAd.out HAa.out HAb.out HAl.out h4 h5 hx hl hm).mono ?_;unfold cpuC;rintro e9 W ⟨gd',cd',ga',cA',g1',c1',g2',c2',mid',rfl,hc9,k9⟩;have HC:=hide hc9;have HK:=hide (KD.out.trans k9);have HKW:=hide k9;have HB2:=hide (HB.out.any k9);have HBW:=hide (HBO.out.kept0 k9);have hbw:=HBW.out.lt;clear hc9 k9;have o0:=HBW.out.cell (i:=0) rfl;have of0:=HBW.out.frozen 0;have o1:=HBW.out.cell (i:=1) rfl;have of1:=HBW.out.frozen 1;have o2:=HBW.out.cell (i:=2) rfl;have of2:=HBW.out.frozen 2;have o3:=HBW.out.cell (i:=3) rfl;have of3:=HBW.out.frozen 3;have o4:=HBW.out.cell (i:=4) rfl;have of4:=HBW.out.frozen 4;have o5:=HBW.out.cell (i:=5) rfl;have of5:=HBW.out.frozen 5;have o6:=HBW.out.cell (i:=6) rfl;have of6:=HBW.out.frozen 6;have o7:=HBW.out.cell (i:=7) rfl;have of7:=HBW.out.frozen 7;have o8:=HBW.out.cell (i:=8) rfl;have of8:=HBW.out.frozen 8;have o9:=HBW.out.cell (i:=9) rfl;have of9:=HBW.out.frozen 9;have o10:=HBW.out.cell (i:=10) rfl;have of10:=HBW.out.frozen 10;have o11:=HBW.out.cell (i:=11) rfl;have of11:=HBW.out.frozen 11))
 go_wp2_with fail
 have hd0:=HC.out.d0
 have ha0:=HC.out.a0
 have hd1:=HC.out.d1
 have hb0:=HC.out.b0
 have hxs:X.drew.heap.size=w.heap.size+1:=by show X.heap.size=_;rw [←hX];simp
 refine bodyPost_ret (v:=.agg (cpuC (c.cpu false) gd' cd' ga' cA' g1' c1' g2' c2')) ?_ rfl ⟨gd',cd',ga',cA',g1',c1',g2',c2',mid',rfl,HC.out.past (b:=w.heap.size) (by omega) (Nat.le_refl _) ?kk,?kw⟩
 case kk=>repeat (first|with_reducible exact Kept.refl _ _ _|refine kept_set ?_ _ _ _ (.inl (by omega)))
 case kw=>repeat (first|with_reducible exact HK.out|refine kept_set ?_ _ _ _ (.inr (by omega)))
 rw [results_one rfl];go_simp;rfl
theorem mCpu (w:World) (lo mid hi p g2:Nat) (c:Pl.Mc) (h:MAt w lo mid hi p g2 c) (G:Pl.GM c) :
  Calls prog 43 #[.pointer (some ⟨p,0,none⟩)] w fun r w'=>∃gd cd ga cA g1 c1 g2 c2 mid:Nat,r=.returned (.agg (cpuC (c.cpu false) gd cd ga cA g1 c1 g2 c2))∧CO w' w.heap.size mid (c.cpu false) gd ga g1 g2 c2∧Kept 0 0 w w':=by
 obtain ⟨gd,cd,ga,ca,g1,c1,c2,hB,hO⟩:=h
 exact mCpuR w p gd cd ga ca g1 c1 g2 c2 c hB hO.d.row hO.a.row hO.b.row (own_of_row5 hO.l).row G.g.d4 G.g.a4 G.bx G.bl G.bm
namespace Pl
def entM (c:Cp) (f:Ft) (k:Int):Mc:=(Mc.ofC c).ent (c.r.f+32*k+256) (ftRow c.r f) f.v
def entK (c:Cp) (f:Ft) (k:Int):Cp:=(entM c f k).cpu (!(entM c f k).fine)
def Mc.un (c:Mc):Mc:={c with st:=false}
theorem push_st (c:Mc) (v:Int):c.un.push v=(c.push v).un:=by
 show (bif (c.acc 2 2 c.spA v).fine then _ else _)=Mc.un (bif (c.acc 2 2 c.spA v).fine then _ else _)
 cases (c.acc 2 2 c.spA v).fine<;>rfl
theorem pushes_st (c:Mc) (xs:List Int):c.un.pushes xs=(c.pushes xs).un:=by
 induction xs generalizing c with
 | nil=>rfl
 | cons v xs ih=>
  show Mc.pushes (c.un.ps v) xs=(Mc.pushes (c.ps v) xs).un
  rw [←ih,show c.un.ps v=(c.ps v).un from by
   unfold Mc.ps
   show (bif c.fine then _ else _)=Mc.un (bif c.fine then _ else _)
   cases c.fine
   ·rfl
   ·exact push_st c v]
theorem GM.ent' {d:Mc} (q:GM d) {v:Int} (v0:0≤v) (v1:v≤21):GM (d.ent' v):=by
 have ha:askOk 1 2 (2*v) 0=true:=ask_read (k:=1) (.inl rfl) (by omega) (by omega)
 have hv:=q.accV ha
 unfold Mc.ent'
 cases d.fine
 ·exact q
 ·cases (d.acc 1 2 (2*v) 0).fine
  ·exact q.acc ha
  ·have h9:0≤d.accV 1 2 (2*v) 0∧d.accV 1 2 (2*v) 0<65536:=by simpa [okv,within,top] using hv
   exact (q.acc ha).setP h9.1 (by have:=h9.2;omega)
theorem ent_st (c:Mc) (n:Int) (xs:List Int) (v:Int):c.ent n xs v=(((c.setR (withR c.r n)).pushes xs).ent' v).un:=by
 unfold Mc.ent
 rw [show c.ent0 n=(c.setR (withR c.r n)).un from rfl,pushes_st]
 generalize (c.setR (withR c.r n)).pushes xs=d
 unfold Mc.ent'
 show (bif d.fine then (bif (d.acc 1 2 (2*v) 0).fine then _ else _) else _)=Mc.un (bif d.fine then (bif (d.acc 1 2 (2*v) 0).fine then _ else _) else _)
 cases d.fine
 ·rfl
 ·cases (d.acc 1 2 (2*v) 0).fine<;>rfl
end Pl
theorem orEnt {x k:Int} (x0:0≤x) (x1:x≤31) (k0:0≤k) (k1:k≤7):bits .or .i64 (bits .or .i64 x (32*k)) 256=x+32*k+256:=by
 have h:=fin1024 (p:=fun n=>bits .or .i64 (bits .or .i64 (n%32) (32*(n/32%8))) 256=n%32+32*(n/32%8)+256) (by decide +kernel) (n:=x+32*k) (by omega) (by omega)
 rwa [show (x+32*k)%32=x by omega,show (x+32*k)/32%8=k by omega] at h
theorem MAt.lgLo {w:World} {lo mid hi p g2:Nat} {c:Pl.Mc} (h:MAt w lo mid hi p g2 c):lo≤g2:=by
 obtain ⟨gd,cd,ga,ca,g1,c1,c2,hB,hO⟩:=h
 have:=hO.g2;have:=hO.d0;have:=hO.d1
 omega
theorem kept_snc {w a b:World} {lo hi g g':Nat} (k:Kept 0 0 w a) (h:Since a lo hi g b g') (hl:w.heap.size≤lo) (hg:w.heap.size≤g):Kept 0 0 w b:=
 ⟨h.2.os.trans k.os,h.2.tape.trans k.tape,h.2.output.trans k.output,Nat.le_trans k.size h.2.size,fun i hi _=>(h.2.block i (Nat.lt_of_lt_of_le hi k.size) (by unfold own;omega)).trans (k.block i hi (by omega))⟩
theorem Since.ownRow' {w w':World} {lo hi g g':Nat} (h:Since w lo hi g w' g') {q:Nat} {xs:List Int} (ho:Own w q xs) (hq:q<w.heap.size) (hn:¬own lo hi g q):Own w' q xs:=by
 have e:=h.2.block q hq hn
 intro i hi
 have:=ho i hi
 simp only [World.cell?,World.frozen?,e] at this ⊢
 exact this
theorem CO.up2 {w w':World} {lo mid gd ga g1 g2 c2 T:Nat} {m:Pl.Mc} {x:Bool} (h:CO w lo mid (m.cpu x) gd ga g1 g2 c2) (y:Bool) (h1:g1<T) (h2:g2<T) (k:Kept T (T+1) w w'):CO w' lo mid (m.cpu y) gd ga g1 g2 c2:=by
 have:=h.d1;have:=h.b0;have:=h.a1
 exact ⟨h.d.keptS k (by omega),h.a.keptS k (by omega),h.b.keptS k (by omega),ownsRow_keptS h.l k (by omega),h.d0,h.d1,h.a0,h.a1,h.da,h.b0,Nat.lt_of_lt_of_le h.b1 k.size,h.bl⟩
theorem CO.pst {w w':World} {lo' lo x y mid gd ga g1 g2 c2:Nat} {c:Pl.Cp} (h:CO w lo' mid c gd ga g1 g2 c2) (hl:y≤lo') (hb:lo≤lo') (k:Kept x y w w'):CO w' lo mid c gd ga g1 g2 c2:=by
 have q:=h.l.lt g2 rfl
 have:=h.d0;have:=h.d1;have:=h.b0;have:=h.a0;have:=h.a1
 exact ⟨h.d.keptS k (by omega),h.a.keptS k (by omega),h.b.keptS k (by omega),ownsRow_keptS h.l k (by omega),by omega,h.d1,by omega,h.a1,h.da,h.b0,Nat.lt_of_lt_of_le h.b1 k.size,h.bl⟩
theorem specFrame4 (w:World) (r:Pl.Rg) (f:Pl.Ft) (gd cd ga ca:Nat) (hg:Pl.Good r) :
  Calls prog 38 #[regV r gd cd ga ca,.agg (ftA f)] w fun e w'=>∃(g c:Nat),e=.returned (.slice (some ⟨g,0,none⟩) (Pl.ftRow r f).length c)∧w.heap.size≤g∧g<w'.heap.size∧Own w' g (Pl.ftRow r f)∧Kept 0 0 w w':=by
 have h:=specFrame w r f (some ⟨gd,0,none⟩) (some ⟨ga,0,none⟩) cd ca hg
 rw [hg.d4,hg.a4] at h
 exact h
theorem mEnter (w:World) (c:Pl.Cp) (f:Pl.Ft) (mk:Int) (a b e q:Option Addr) (ca cb ce cq:Nat) (ha:IRow w a c.r.xs) (hb:IRow w b c.r.ys) (he:IRow w e c.bx) (hq:IRow w q c.bl) (hok:Pl.cpOk c=true) (hl:c.bl.length=5*c.bm) (hfk:Pl.ftOk f=true) (k0:0≤mk) (k1:mk≤7) :
  Calls prog 16 #[.agg #[.slice a 4 ca,.slice b 4 cb,iv c.r.o,iv c.r.p,iv c.r.f,iv c.r.m,.bool c.r.s,.bool c.r.t,.slice e 512 ce,.slice q c.bm cq,.bool c.st,.bool c.ha],.agg (ftA f),iv mk] w fun r w'=>∃gd cd ga cA g1 c1 g2 c2 mid:Nat,r=.returned (.agg (cpuC (Pl.entK c f mk) gd cd ga cA g1 c1 g2 c2))∧CO w' w.heap.size mid (Pl.entK c f mk) gd ga g1 g2 c2∧Kept 0 0 w w':=by
 have G:Pl.GM (Pl.Mc.ofC c):=Pl.GM.of hok hl c.st
 have HG:=hide G
 have h4:c.r.xs.length=4:=G.g.d4
 have h5:c.r.ys.length=4:=G.g.a4
 have hbx:c.bx.length=512:=G.bx
 have hbm:c.bm≤400:=G.bm
 have HW:=hide (Pl.ftRow_ok (r:=c.r) G.g hfk)
 have hvv:=(Pl.ft_ok hfk).1
 have f0:0≤c.r.f:=G.g.f0
 have f1:c.r.f≤31:=G.g.f1
 have e1:IntKind.i64.wrap (32*mk)=32*mk:=by rw [IntKind.wrap_i64];omega
 have e2:bits .or .i64 (bits .or .i64 c.r.f (32*mk)) 256=c.r.f+32*mk+256:=orEnt f0 f1 k0 k1
 obtain ⟨n,hn⟩:∃n,n=c.r.f+32*mk+256:=⟨_,rfl⟩
 have n0:0≤n:=by omega
 have n1:n≤1023:=by omega
 obtain ⟨xs,hxs⟩:∃xs,xs=Pl.ftRow c.r f:=⟨_,rfl⟩
 obtain ⟨D,hD⟩:∃D,D=(Pl.Mc.ofC c).setR (Pl.withR c.r n):=⟨_,rfl⟩
 have HEK:Hid (Pl.entK c f mk=((D.pushes xs).ent' f.v).un.cpu (!((D.pushes xs).ent' f.v).fine)):=hide (by unfold Pl.entK Pl.entM;rw [←hn,←hxs,Pl.ent_st,hD];rfl)
 have GD:Hid (Pl.GM D):=hide (by rw [hD];exact G.with n)
 rw [←hn] at e2
 have hlen:xs.length≤5:=by rw [hxs];unfold Pl.ftRow;split<;>simp
 rw [←hxs] at HW
 have HXS:=hide hxs
 have HD:=hide hD
 clear hn hxs hD
 have HSTA:=fun (w9:World) ra rb re rq=>mStart w9 c a b e q ca cb ce cq ra rb re rq h4 h5 hbx hl hbm
 clear h4 h5 hbx hbm G
 have K0:=hide (kept_new (kept_new (kept_alloc w (.cells #[.slice a 4 ca,.slice b 4 cb,iv c.r.o,iv c.r.p,iv c.r.f,iv c.r.m,.bool c.r.s,.bool c.r.t,.slice e 512 ce,.slice q c.bm cq,.bool c.st,.bool c.ha] 38)) (.cells (ftA f) 42)) (.cells cpZ 38))
 have B0:=((Blk.new w #[.slice a 4 ca,.slice b 4 cb,iv c.r.o,iv c.r.p,iv c.r.f,iv c.r.m,.bool c.r.s,.bool c.r.t,.slice e 512 ce,.slice q c.bm cq,.bool c.st,.bool c.ha] 38).alloc (.cells (ftA f) 42)).alloc (.cells cpZ 38)
 have BF:=(Blk.new (w.alloc (.cells #[.slice a 4 ca,.slice b 4 cb,iv c.r.o,iv c.r.p,iv c.r.f,iv c.r.m,.bool c.r.s,.bool c.r.t,.slice e 512 ce,.slice q c.bm cq,.bool c.st,.bool c.ha] 38)) (ftA f) 42).alloc (.cells cpZ 38)
 have BR:=Blk.new ((w.alloc (.cells #[.slice a 4 ca,.slice b 4 cb,iv c.r.o,iv c.r.p,iv c.r.f,iv c.r.m,.bool c.r.s,.bool c.r.t,.slice e 512 ce,.slice q c.bm cq,.bool c.st,.bool c.ha] 38)).alloc (.cells (ftA f) 42)) cpZ 38
 simp only [World.size_alloc] at BF BR
 obtain ⟨X,hX⟩:∃X:World,((w.alloc (.cells #[.slice a 4 ca,.slice b 4 cb,iv c.r.o,iv c.r.p,iv c.r.f,iv c.r.m,.bool c.r.s,.bool c.r.t,.slice e 512 ce,.slice q c.bm cq,.bool c.st,.bool c.ha] 38)).alloc (.cells (ftA f) 42)).alloc (.cells cpZ 38)=X:=⟨_,rfl⟩
 rw [hX] at K0 B0 BF BR
 have sX:X.heap.size=w.heap.size+3:=by simp [←hX]
 have HBF:=hide BF
 have HBR:=hide BR
 have HA:=hide (ha.keptS K0.out)
 have HB:=hide (hb.keptS K0.out)
 have HE:=hide (he.keptS K0.out)
 have HQ:=hide (hq.keptS K0.out)
 have i0:=B0.all
 clear B0 BF BR ha hb he hq
 go_enter func16,ntmps16
 go_wp2_with (go_at_call 37;refine (HSTA _ HA.out HB.out HE.out HQ.out).mono ?_;rintro e9 W1 ⟨mid,p,g9,rfl,hm9,hp9,k9⟩;have HM1:=hide hm9;have K1:=hide k9;have BF1:=hide (HBF.out.kept0 k9);have BR1:=hide (HBR.out.kept0 k9);have hpX:X.heap.size≤p:=hp9;have s1:=k9.size;clear hm9 hp9 k9)
 clear i0 hX HSTA HA HB HE HQ
 obtain ⟨gd,cd,ga,cA,g1,c1,c2,HB1,HO1⟩:=HM1.out.op
 have hlo1:=HM1.out.lo
 have hg9:=HM1.out.lgLo
 go_region_held3 (fun w'=>(w'.cell? ⟨p,0,none⟩=some (.slice (some ⟨gd,0,none⟩) 4 cd)∧w'.cell? ⟨p,1,none⟩=some (.slice (some ⟨ga,0,none⟩) 4 cA)∧w'.cell? ⟨p,2,none⟩=some (iv c.r.o)∧w'.cell? ⟨p,3,none⟩=some (iv c.r.p)∧w'.cell? ⟨p,4,none⟩=some (iv c.r.f)∧w'.cell? ⟨p,5,none⟩=some (iv c.r.m)∧w'.cell? ⟨p,6,none⟩=some (.bool c.r.s)∧w'.cell? ⟨p,7,none⟩=some (.bool c.r.t))∧(∀i,w'.cell? ⟨w.heap.size+1,i,none⟩=(ftA f)[i]?)) (first|exact ⟨HB2.out.c8,BF2.out.all⟩|exact ⟨(HB1.out.any (kept_drew (Kept.refl _ _ _))).c8,(show Blk _ _ _ _ from BF1.out).all⟩) (first|(go_at_call 38;refine (specFrame4 _ c.r f gd cd ga cA HG.out.g).mono ?_;rw [←HXS.out];rintro e9 W2 ⟨gf,cf,rfl,gf0,gf1,ho,kd⟩;have k2:=undrewK kd;have gf2:W1.heap.size≤gf:=gf0;have OF:=hide ho;have K2:=hide (K1.out.trans k2);have HB2:=hide (HB1.out.any k2);have HO2:=hide (HO1.out.any k2);have BF2:=hide (BF1.out.kept0 k2);have z2:=k2.size;clear kd k2 ho gf0))
 rename_i hHeld
 clear hHeld
 have HW4:=fun w9 hr hh=>with4 w9 X.heap.size mid gd cd ga cA c.r n hr hh HG.out.g n0 n1
 obtain ⟨R,hR⟩:∃R,Pl.withR c.r n=R:=⟨_,rfl⟩
 rw [hR] at HD
 simp only [hR,regV] at HW4
 clear hR
 have HOY:=hide (HO2.out.any (kept_drew (Kept.refl 0 0 W2)))
 have HBY:=hide (HB2.out.any (kept_drew (Kept.refl 0 0 W2)))
 have HRY:=hide (MO.reg (r:=c.r) HOY.out)
 have HMY:Hid (mid≤W2.drew.heap.size):=hide (by have:=HOY.out.hh;omega)
 have HPM:=HOY.out.p0
 go_wp2_with fail
 obtain ⟨t0,t1,t2,t3,t4,t5,t6,t7⟩:W2.cell? ⟨p,0,none⟩=some (.slice (some ⟨gd,0,none⟩) 4 cd)∧W2.cell? ⟨p,1,none⟩=some (.slice (some ⟨ga,0,none⟩) 4 cA)∧W2.cell? ⟨p,2,none⟩=some (iv c.r.o)∧W2.cell? ⟨p,3,none⟩=some (iv c.r.p)∧W2.cell? ⟨p,4,none⟩=some (iv c.r.f)∧W2.cell? ⟨p,5,none⟩=some (iv c.r.m)∧W2.cell? ⟨p,6,none⟩=some (.bool c.r.s)∧W2.cell? ⟨p,7,none⟩=some (.bool c.r.t):=HB2.out.c8
 go_cut [21,22,23,24,25,26,27,28,29,30,31,32,33,34,35,36,37] (fun _ _ _ _ _ _ _ _ _ _ _ _ _ _ _ _ _ wx=>MAt wx X.heap.size mid W1.heap.size p g9 D∧Own wx gf xs∧gf<wx.heap.size∧Kept 0 0 X wx)
 case first=>
  go_region_with (go_at_call 39;refine (HW4 _ HRY.out HMY.out).mono ?_;rintro e9 W_9 ⟨rfl,hr9,hk9⟩;have HO_9:=hide (HOY.out.regs hr9 hk9);have HB_9:=hide (HBY.out.regs hk9 HPM);have OF9:=hide (OF.out.keptS (undrewK hk9) (by omega));have K9:=hide (kept_over (kept_drew K2.out) hk9 (by omega));have z9:W2.heap.size≤W_9.heap.size:=hk9.size;clear hr9 hk9 t0 t1 t2 t3 t4 t5 t6 t7;obtain ⟨u0,u1,u2,u3,u4,u5,u6,u7,_⟩:=HB_9.out.cells;have q0:=HB_9.out.frozen 0;have q1:=HB_9.out.frozen 1;have q2:=HB_9.out.frozen 2;have q3:=HB_9.out.frozen 3;have q4:=HB_9.out.frozen 4;have q5:=HB_9.out.frozen 5;have q6:=HB_9.out.frozen 6;have q7:=HB_9.out.frozen 7)
  all_goals
   go_wp2_with fail
   go_meet
   case rel=>exact ⟨by rw [HD.out];exact MAt.laid HB_9.out HO_9.out,OF9.out.keptS (MB.kept8 _ _ _ _ _ _ _ _) (by omega),by simp;omega,kept_over K9.out (MB.kept8 _ _ _ _ _ _ _ _) (by omega)⟩
 case rest=>
 rename_i wx
 obtain ⟨hm,ho,hgx,hkx⟩:=hcut
 have HM3:=hide hm
 have OF3:=hide ho
 have K3:=hide hkx
 clear hm ho hkx t0 t1 t2 t3 t4 t5 t6 t7 HW4 HOY HBY HRY HMY HB1 HO1 HB2 HO2 OF K1 K2 BF1 BF2
 go_wp2_with fail
 go_loopw [40] (fun j wr=>∃(k g':Nat),k≤xs.length∧j=iv (k:Int)∧MAt wr X.heap.size mid W1.heap.size p g' (D.pushes (xs.take k))∧Own wr gf xs∧gf≠g'∧gf<wr.heap.size∧Kept 0 0 X wr) (fun j _=>xs.length-(intOf j).toNat)
 case atStart=>exact ⟨0,g9,Nat.zero_le _,rfl,HM3.out,OF3.out,by omega,hgx,K3.out⟩
 case round=>
  obtain ⟨k,g',hk,rfl,hm,ho,hgne,hglt,hkx⟩:=hrel
  have MM:=hide hm
  have OO:=hide ho
  have KK:=hide hkx
  have hlg:=hm.lgLo
  have zz:=hkx.size
  clear hm ho hkx HM3 OF3 K3
  obtain ⟨E,hE⟩:∃E,E=D.pushes (xs.take k):=⟨_,rfl⟩
  rw [←hE] at MM
  have HEE:=hide hE
  have GE:Hid (Pl.GM E):=hide (by rw [hE];exact GD.out.pushes HW.out k hk)
  clear hE
  by_cases hlt:k<xs.length
  ·have dk:(k:Int)<(xs.length:Int):=by omega
   obtain ⟨v0,v1⟩:=HW.out k hlt
   have qk:=(OO.out k hlt).1
   rw [show xs[k]?.getD 0=el xs k from rfl] at qk
   obtain ⟨V,hV⟩:∃V,V=el xs k:=⟨_,rfl⟩
   rw [←hV] at qk v0 v1
   have E1:Hid (D.pushes (xs.take (k+1))=E.ps V):=hide (by rw [Pl.pushes_take _ _ hlt,←HEE.out,hV])
   clear hV
   cases hfi:E.fine
   ·have E2:Hid (E.ps V=E):=hide (by unfold Pl.Mc.ps;rw [hfi];rfl)
    go_wp2_with (go_at_call 40;refine st (mFine _ X.heap.size mid W1.heap.size p g' E MM.out) ?_;rw [hfi])
    go_roundw
    case rel=>exact ⟨k+1,g',by omega,by go_num,by rw [E1.out,E2.out];exact MM.out,OO.out,hgne,hglt,KK.out⟩
    case measure=>simp [intOf];omega
   ·have E2:Hid (E.ps V=E.push V):=hide (by unfold Pl.Mc.ps;rw [hfi];rfl)
    go_wp2_with (first|(go_at_call 40;refine st (mFine _ X.heap.size mid W1.heap.size p g' E MM.out) ?_;rw [hfi])|(go_at_call 41;refine (mPush _ X.heap.size mid W1.heap.size p g' E V MM.out GE.out v0 v1).mono ?_;rintro e9 W5 ⟨rfl,g5,hm5,hs5⟩;have M5:=hide hm5;have n5:=hs5.ne (b:=gf) hglt hgne;have O5:=hide (hs5.ownRow' OO.out hglt (by unfold own;omega));have K5:=hide (kept_snc KK.out hs5 (Nat.le_refl _) hlg);have z5:=hs5.size;clear hm5 hs5))
    go_roundw
    case rel=>exact ⟨k+1,g5,by omega,by go_num,by rw [E1.out,E2.out];exact M5.out,O5.out,n5,by omega,K5.out⟩
    case measure=>simp [intOf];omega
  ·have dk:¬((k:Int)<(xs.length:Int)):=by omega
   have hkx:k=xs.length:=by omega
   have EX:Hid (D.pushes xs=E):=hide (by rw [HEE.out,hkx,List.take_length])
   rw [EX.out] at HEK
   have e3:IntKind.i64.wrap (2*f.v)=2*f.v:=by rw [IntKind.wrap_i64];omega
   have HASK:=hide (Pl.ask_read (k:=1) (a:=2*f.v) (.inl rfl) (by omega) (by omega))
   have BF:=hide (HBF.out.kept0 KK.out)
   have p2:=BF.out.all
   obtain ⟨N,hN⟩:∃N,N=E.ent' f.v:=⟨_,rfl⟩
   have GN:Hid (Pl.GM N):=hide (by rw [hN];exact Pl.GM.ent' GE.out (by omega) (by omega))
   rw [←hN] at HEK
   have HN:=hide hN
   clear hN hkx EX HEE
   go_upto_if 51 with (go_at_call 40;refine st (mFine _ X.heap.size mid W1.heap.size p g' E MM.out) ?_)
   go_cut [11,52,53,54,55,56,57,58,59,60,61,62,63] (fun _ _ _ _ _ _ _ _ _ _ _ _ _ wx=>∃g',MAt wx X.heap.size mid W1.heap.size p g' N∧Kept 0 0 X wx)
   case first=>
    cases hfi:E.fine
    ·have E1:Hid (N=E):=hide (by rw [HN.out];unfold Pl.Mc.ent';rw [hfi];rfl)
     go_wp2_with fail
     go_meet
     case rel=>exact ⟨g',by rw [E1.out];exact MM.out,KK.out⟩
    ·obtain ⟨M,hM⟩:∃M,M=E.acc 1 2 (2*f.v) 0:=⟨_,rfl⟩
     obtain ⟨V,hV⟩:∃V,V=E.accV 1 2 (2*f.v) 0:=⟨_,rfl⟩
     have HAC:=hide (mAccess _ X.heap.size mid W1.heap.size p g' E 1 2 (2*f.v) 0 MM.out GE.out HASK.out)
     rw [←hM,←hV] at HAC
     have HM:=hide hM
     have HV:=hide hV
     clear hM hV
     cases hfm:M.fine
     ·have E1:Hid (N=M):=hide (by rw [HN.out];unfold Pl.Mc.ent';rw [hfi,←HM.out,hfm];rfl)
      go_wp2_with (first|(go_at_call 40;have z:=M6;refine st (mFine _ X.heap.size mid W1.heap.size p g6 M M6.out) ?_;rw [hfm])|(go_at_call 42;refine HAC.out.mono ?_;rintro e9 W6 ⟨rfl,g6,hm6,hs6⟩;have M6:=hide hm6;have K6:=hide (kept_snc KK.out hs6 (Nat.le_refl _) hlg);clear hm6 hs6))
      go_meet
      case rel=>exact ⟨g6,by rw [E1.out];exact M6.out,K6.out⟩
     ·have E1:Hid (N=M.setP V):=hide (by rw [HN.out];unfold Pl.Mc.ent';rw [hfi,←HM.out,←HV.out,hfm];rfl)
      go_wp2_with (first|(go_at_call 40;have z:=M6;refine st (mFine _ X.heap.size mid W1.heap.size p g6 M M6.out) ?_;rw [hfm])|(go_at_call 42;refine HAC.out.mono ?_;rintro e9 W6 ⟨rfl,g6,hm6,hs6⟩;have M6:=hide hm6;have K6:=hide (kept_snc KK.out hs6 (Nat.le_refl _) hlg);obtain ⟨xd,xc,ya,yc,z1,zc,y2,hB6,hO6⟩:=hm6;have t3:=hB6.k3;have q3:=hB6.frozen 3;clear hB6 hO6 hs6))
      go_meet
      case rel=>exact ⟨g6,by rw [E1.out];exact M6.out.cP V,kept_over K6.out (kept_one _ p 3 (iv V)) (by omega)⟩
   case rest=>
   obtain ⟨g7,hm7,hk7⟩:=hcut
   obtain ⟨U,hU⟩:∃U,U=N.un:=⟨_,rfl⟩
   have GU:Hid (Pl.GM U):=hide (by rw [hU];exact ⟨GN.out.g,GN.out.p0,GN.out.p1,GN.out.bx,GN.out.ok,GN.out.bl,GN.out.bm,GN.out.ac⟩)
   have FU:Hid (U.fine=N.fine):=hide (by rw [hU];rfl)
   have M8:Hid (MAt (wc.setCell ⟨p,10,none⟩ (.bool false)) X.heap.size mid W1.heap.size p g7 U):=hide (by rw [hU];exact hm7.cSt false)
   have K8:=hide (kept_over hk7 (kept_one wc p 10 (.bool false)) (by omega))
   obtain ⟨xd,xc,ya,yc,z1,zc,y2,hB7,hO7⟩:=hm7
   have t10:=hB7.k10
   have q10:=hB7.frozen 10
   rw [←hU,←FU.out] at HEK
   clear hB7 hO7 hk7 MM OO KK BF p2 hU
   go_wp2_with fail
   clear t10 q10
   refine (mCpu _ X.heap.size mid W1.heap.size p g7 U M8.out GU.out).mono ?_
   unfold cpuC
   rintro e9 W9 ⟨gd,cd,ga,cA,g1,c1,g2,c2,mid3,rfl,hc9,k9⟩
   simp only [Pl.Mc.cpu]
   have kz:=kept_alloc W9 (.cells #[.slice (some ⟨gd,0,none⟩) 4 cd,.slice (some ⟨ga,0,none⟩) 4 cA,iv U.r.o,iv U.r.p,iv U.r.f,iv U.r.m,.bool U.r.s,.bool U.r.t,.slice (some ⟨g1,0,none⟩) 512 c1,.slice (some ⟨g2,0,none⟩) U.bm c2,.bool U.st,.bool false] 38)
   have K9:=hide ((K8.out.trans k9).trans kz)
   have M9:=hide ((M8.out.any k9).any kz)
   have BT:=hide (Blk.new W9 #[.slice (some ⟨gd,0,none⟩) 4 cd,.slice (some ⟨ga,0,none⟩) 4 cA,iv U.r.o,iv U.r.p,iv U.r.f,iv U.r.m,.bool U.r.s,.bool U.r.t,.slice (some ⟨g1,0,none⟩) 512 c1,.slice (some ⟨g2,0,none⟩) U.bm c2,.bool U.st,.bool false] 38)
   have C9:=hide (hc9.any kz)
   have z9:X.heap.size≤W9.heap.size:=(K8.out.trans k9).size
   have z8:=k9.size
   have hlo8:=M8.out.lo
   have hc1:=hc9.b1
   have hc2:=(hc9.l.lt g2 rfl).2
   have BR9:=hide (HBR.out.kept0 K9.out)
   obtain ⟨Z,hZ⟩:∃Z:World,W9.alloc (.cells #[.slice (some ⟨gd,0,none⟩) 4 cd,.slice (some ⟨ga,0,none⟩) 4 cA,iv U.r.o,iv U.r.p,iv U.r.f,iv U.r.m,.bool U.r.s,.bool U.r.t,.slice (some ⟨g1,0,none⟩) 512 c1,.slice (some ⟨g2,0,none⟩) U.bm c2,.bool U.st,.bool false] 38)=Z:=⟨_,rfl⟩
   rw [hZ] at K9 M9 BT C9 BR9
   have hne:w.heap.size+1+1<W9.heap.size:=by omega
   have r9:=BR9.out.all
   have rf9:=BR9.out.fz
   have b9:=BT.out.all
   have bf9:=BT.out.fz
   clear k9 hc9 kz
   go_wp2_with (go_at_call 40;refine st (mFine _ X.heap.size mid W1.heap.size p g7 U (M9.out.past (kept_one Z W9.heap.size 11 (.bool false)) (by omega) (by omega))) ?_)
   have s0:=K0.out.size
   have CZ:=hide (C9.out.up2 (!U.fine) hc1 hc2 ((kept_one Z W9.heap.size 11 (.bool false)).one 11 (.bool (!U.fine))))
   refine bodyPost_ret (v:=.agg (cpuC (Pl.entK c f mk) gd cd ga cA g1 c1 g2 c2)) ?_ rfl ⟨gd,cd,ga,cA,g1,c1,g2,c2,mid3,rfl,?co,?kw⟩
   case co=>
    rw [HEK.out]
    refine CO.pst (x:=w.heap.size+1+1) (y:=w.heap.size+1+1+1) CZ.out (by omega) (by omega) ?_
    repeat (first|with_reducible exact Kept.refl _ _ _|refine kept_set ?_ _ _ _ (.inl (by omega)))
   case kw=>
    repeat (first|with_reducible exact K0.out.trans K9.out|refine kept_set ?_ _ _ _ (.inr (by omega)))
   rw [results_one rfl,HEK.out];unfold cpuC;simp only [Pl.Mc.cpu];go_simp
theorem specGoodCpu (w:World) (c:Pl.Cp) (a b e q:Option Addr) (ca cb ce cq:Nat) (ha:IRow w a c.r.xs) (hb:IRow w b c.r.ys) (he:IRow w e c.bx) (hq:IRow w q c.bl) (lx:c.r.xs.length≤2000000) (ly:c.r.ys.length≤2000000) (lb:c.bx.length≤2000000) (ll:c.bl.length=5*c.bm) (lm:c.bm≤2000000) :
  Calls prog 14 #[.agg #[.slice a c.r.xs.length ca,.slice b c.r.ys.length cb,iv c.r.o,iv c.r.p,iv c.r.f,iv c.r.m,.bool c.r.s,.bool c.r.t,.slice e c.bx.length ce,.slice q c.bm cq,.bool c.st,.bool c.ha]] w fun r w'=>r=.returned (.bool (Pl.cpOk c))∧Kept 0 0 w w':=by
 have K0:=hide (kept_alloc w (.cells #[.slice a c.r.xs.length ca,.slice b c.r.ys.length cb,iv c.r.o,iv c.r.p,iv c.r.f,iv c.r.m,.bool c.r.s,.bool c.r.t,.slice e c.bx.length ce,.slice q c.bm cq,.bool c.st,.bool c.ha] 38))
 have BA:=Blk.new w #[.slice a c.r.xs.length ca,.slice b c.r.ys.length cb,iv c.r.o,iv c.r.p,iv c.r.f,iv c.r.m,.bool c.r.s,.bool c.r.t,.slice e c.bx.length ce,.slice q c.bm cq,.bool c.st,.bool c.ha] 38
 obtain ⟨X,hX⟩:∃X:World,w.alloc (.cells #[.slice a c.r.xs.length ca,.slice b c.r.ys.length cb,iv c.r.o,iv c.r.p,iv c.r.f,iv c.r.m,.bool c.r.s,.bool c.r.t,.slice e c.bx.length ce,.slice q c.bm cq,.bool c.st,.bool c.ha] 38)=X:=⟨_,rfl⟩
 rw [hX] at K0 BA
 have HBA:=hide BA
 have HA:=hide (ha.keptS K0.out)
 have HB:=hide (hb.keptS K0.out)
 have HE:=hide (he.keptS K0.out)
 have HQ:=hide (hq.keptS K0.out)
 clear BA ha hb he hq
 have i0:=HBA.out.cell (i:=0) rfl
 have i1:=HBA.out.cell (i:=1) rfl
 have i2:=HBA.out.cell (i:=2) rfl
 have i3:=HBA.out.cell (i:=3) rfl
 have i4:=HBA.out.cell (i:=4) rfl
 have i5:=HBA.out.cell (i:=5) rfl
 have i6:=HBA.out.cell (i:=6) rfl
 have i7:=HBA.out.cell (i:=7) rfl
 have i8:=HBA.out.cell (i:=8) rfl
 have i9:=HBA.out.cell (i:=9) rfl
 have i10:=HBA.out.cell (i:=10) rfl
 have i11:=HBA.out.cell (i:=11) rfl
 cases h1:Pl.rgOk c.r
 ·go_enter func14,ntmps14
  go_wp2_with (first|(go_at_call 32;refine (specGoodRegs _ c.r a b ca cb HA.out HB.out lx ly).mono ?_;rintro e9 W ⟨rfl,k9⟩;rw [h1];have HK1:=hide k9;have HB1:=hide (HBA.out.kept0 k9);have HE1:=hide (HE.out.keptS k9);have HQ1:=hide (HQ.out.keptS k9);clear k9 i0 i1 i2 i3 i4 i5 i6 i7 i8 i9 i10 i11;have i0:=HB1.out.cell (i:=0) rfl;have i1:=HB1.out.cell (i:=1) rfl;have i2:=HB1.out.cell (i:=2) rfl;have i3:=HB1.out.cell (i:=3) rfl;have i4:=HB1.out.cell (i:=4) rfl;have i5:=HB1.out.cell (i:=5) rfl;have i6:=HB1.out.cell (i:=6) rfl;have i7:=HB1.out.cell (i:=7) rfl;have i8:=HB1.out.cell (i:=8) rfl;have i9:=HB1.out.cell (i:=9) rfl;have i10:=HB1.out.cell (i:=10) rfl;have i11:=HB1.out.cell (i:=11) rfl))
  go_ret
  exact ⟨rB (by unfold Pl.cpOk;simp [h1]),K0.out.trans HK1.out⟩
 ·cases h2:Pl.goodBus c.bx c.bl c.bm
  ·go_enter func14,ntmps14
   go_wp2_with (first|(go_at_call 33;have z9:=HB1;refine (specGoodBus _ e q ce cq c.bm c.bx c.bl HE1.out HQ1.out lb ll lm).mono ?_;rintro e9 W2 ⟨rfl,k9⟩;rw [h2];have HK2:=hide k9;have HB2:=hide (HB1.out.kept0 k9);clear k9 i0 i1 i2 i3 i4 i5 i6 i7 i8 i9 i10 i11;have i0:=HB2.out.cell (i:=0) rfl;have i1:=HB2.out.cell (i:=1) rfl;have i2:=HB2.out.cell (i:=2) rfl;have i3:=HB2.out.cell (i:=3) rfl;have i4:=HB2.out.cell (i:=4) rfl;have i5:=HB2.out.cell (i:=5) rfl;have i6:=HB2.out.cell (i:=6) rfl;have i7:=HB2.out.cell (i:=7) rfl;have i8:=HB2.out.cell (i:=8) rfl;have i9:=HB2.out.cell (i:=9) rfl;have i10:=HB2.out.cell (i:=10) rfl;have i11:=HB2.out.cell (i:=11) rfl)|(go_at_call 32;refine (specGoodRegs _ c.r a b ca cb HA.out HB.out lx ly).mono ?_;rintro e9 W ⟨rfl,k9⟩;rw [h1];have HK1:=hide k9;have HB1:=hide (HBA.out.kept0 k9);have HE1:=hide (HE.out.keptS k9);have HQ1:=hide (HQ.out.keptS k9);clear k9 i0 i1 i2 i3 i4 i5 i6 i7 i8 i9 i10 i11;have i0:=HB1.out.cell (i:=0) rfl;have i1:=HB1.out.cell (i:=1) rfl;have i2:=HB1.out.cell (i:=2) rfl;have i3:=HB1.out.cell (i:=3) rfl;have i4:=HB1.out.cell (i:=4) rfl;have i5:=HB1.out.cell (i:=5) rfl;have i6:=HB1.out.cell (i:=6) rfl;have i7:=HB1.out.cell (i:=7) rfl;have i8:=HB1.out.cell (i:=8) rfl;have i9:=HB1.out.cell (i:=9) rfl;have i10:=HB1.out.cell (i:=10) rfl;have i11:=HB1.out.cell (i:=11) rfl))
   go_ret
   exact ⟨rB (by unfold Pl.cpOk;simp [h1,h2]),(K0.out.trans HK1.out).trans HK2.out⟩
  ·rcases Bool.eq_false_or_eq_true c.st with h3|h3
   ·have H3:=hide h3
    rw [H3.out] at i10
    clear h3
    go_enter func14,ntmps14
    go_wp2_with (first|(go_at_call 33;have z9:=HB1;refine (specGoodBus _ e q ce cq c.bm c.bx c.bl HE1.out HQ1.out lb ll lm).mono ?_;rintro e9 W2 ⟨rfl,k9⟩;rw [h2];have HK2:=hide k9;have HB2:=hide (HB1.out.kept0 k9);clear k9 i0 i1 i2 i3 i4 i5 i6 i7 i8 i9 i10 i11;have i0:=HB2.out.cell (i:=0) rfl;have i1:=HB2.out.cell (i:=1) rfl;have i2:=HB2.out.cell (i:=2) rfl;have i3:=HB2.out.cell (i:=3) rfl;have i4:=HB2.out.cell (i:=4) rfl;have i5:=HB2.out.cell (i:=5) rfl;have i6:=HB2.out.cell (i:=6) rfl;have i7:=HB2.out.cell (i:=7) rfl;have i8:=HB2.out.cell (i:=8) rfl;have i9:=HB2.out.cell (i:=9) rfl;have i10:=HB2.out.cell (i:=10) rfl;have i11:=HB2.out.cell (i:=11) rfl;rw [H3.out] at i10)|(go_at_call 32;refine (specGoodRegs _ c.r a b ca cb HA.out HB.out lx ly).mono ?_;rintro e9 W ⟨rfl,k9⟩;rw [h1];have HK1:=hide k9;have HB1:=hide (HBA.out.kept0 k9);have HE1:=hide (HE.out.keptS k9);have HQ1:=hide (HQ.out.keptS k9);clear k9 i0 i1 i2 i3 i4 i5 i6 i7 i8 i9 i10 i11;have i0:=HB1.out.cell (i:=0) rfl;have i1:=HB1.out.cell (i:=1) rfl;have i2:=HB1.out.cell (i:=2) rfl;have i3:=HB1.out.cell (i:=3) rfl;have i4:=HB1.out.cell (i:=4) rfl;have i5:=HB1.out.cell (i:=5) rfl;have i6:=HB1.out.cell (i:=6) rfl;have i7:=HB1.out.cell (i:=7) rfl;have i8:=HB1.out.cell (i:=8) rfl;have i9:=HB1.out.cell (i:=9) rfl;have i10:=HB1.out.cell (i:=10) rfl;have i11:=HB1.out.cell (i:=11) rfl;rw [H3.out] at i10))
    go_ret
    exact ⟨rB (by unfold Pl.cpOk;simp [h1,h2,H3.out]),(K0.out.trans HK1.out).trans HK2.out⟩
   ·have H3:=hide h3
    rw [H3.out] at i10
    clear h3
    go_enter func14,ntmps14
    go_wp2_with (first|(go_at_call 33;have z9:=HB1;refine (specGoodBus _ e q ce cq c.bm c.bx c.bl HE1.out HQ1.out lb ll lm).mono ?_;rintro e9 W2 ⟨rfl,k9⟩;rw [h2];have HK2:=hide k9;have HB2:=hide (HB1.out.kept0 k9);clear k9 i0 i1 i2 i3 i4 i5 i6 i7 i8 i9 i10 i11;have i0:=HB2.out.cell (i:=0) rfl;have i1:=HB2.out.cell (i:=1) rfl;have i2:=HB2.out.cell (i:=2) rfl;have i3:=HB2.out.cell (i:=3) rfl;have i4:=HB2.out.cell (i:=4) rfl;have i5:=HB2.out.cell (i:=5) rfl;have i6:=HB2.out.cell (i:=6) rfl;have i7:=HB2.out.cell (i:=7) rfl;have i8:=HB2.out.cell (i:=8) rfl;have i9:=HB2.out.cell (i:=9) rfl;have i10:=HB2.out.cell (i:=10) rfl;have i11:=HB2.out.cell (i:=11) rfl;rw [H3.out] at i10)|(go_at_call 32;refine (specGoodRegs _ c.r a b ca cb HA.out HB.out lx ly).mono ?_;rintro e9 W ⟨rfl,k9⟩;rw [h1];have HK1:=hide k9;have HB1:=hide (HBA.out.kept0 k9);have HE1:=hide (HE.out.keptS k9);have HQ1:=hide (HQ.out.keptS k9);clear k9 i0 i1 i2 i3 i4 i5 i6 i7 i8 i9 i10 i11;have i0:=HB1.out.cell (i:=0) rfl;have i1:=HB1.out.cell (i:=1) rfl;have i2:=HB1.out.cell (i:=2) rfl;have i3:=HB1.out.cell (i:=3) rfl;have i4:=HB1.out.cell (i:=4) rfl;have i5:=HB1.out.cell (i:=5) rfl;have i6:=HB1.out.cell (i:=6) rfl;have i7:=HB1.out.cell (i:=7) rfl;have i8:=HB1.out.cell (i:=8) rfl;have i9:=HB1.out.cell (i:=9) rfl;have i10:=HB1.out.cell (i:=10) rfl;have i11:=HB1.out.cell (i:=11) rfl;rw [H3.out] at i10))
    go_ret
    exact ⟨rB (by unfold Pl.cpOk;simp [h1,h2,H3.out]),(K0.out.trans HK1.out).trans HK2.out⟩
def cpuV (c:Pl.Cp) (a b e q:Option Addr) (ca cb ce cq:Nat):Array Value:=#[.slice a c.r.xs.length ca,.slice b c.r.ys.length cb,iv c.r.o,iv c.r.p,iv c.r.f,iv c.r.m,.bool c.r.s,.bool c.r.t,.slice e c.bx.length ce,.slice q c.bm cq,.bool c.st,.bool c.ha]
structure CpuIn (w:World) (base:Nat) (c:Pl.Cp) (a b e q:Option Addr):Prop where
 d:SlotIn w base w.heap.size a c.r.xs
 a':SlotIn w base w.heap.size b c.r.ys
 b':SlotIn w base w.heap.size e c.bx
 l:SlotIn w base w.heap.size q c.bl
 n1:∀g,blk a=some g→blk b≠some g
 n2:∀g,blk a=some g→blk e≠some g
 n3:∀g,blk a=some g→blk q≠some g
 n4:∀g,blk b=some g→blk e≠some g
 n5:∀g,blk b=some g→blk q≠some g
 n6:∀g,blk e=some g→blk q≠some g
theorem CO.cpuIn {w:World} {lo mid gd ga g1 g2 c2:Nat} {c:Pl.Cp} (h:CO w lo mid c gd ga g1 g2 c2):CpuIn w lo c (some ⟨gd,0,none⟩) (some ⟨ga,0,none⟩) (some ⟨g1,0,none⟩) (some ⟨g2,0,none⟩):=by
 have:=h.d0;have:=h.d1;have:=h.a0;have:=h.a1;have:=h.da;have:=h.b0;have:=h.b1;have:=h.bl
 have q:=h.l.lt g2 rfl
 refine ⟨.inr ⟨gd,rfl,by omega,by omega,h.d⟩,.inr ⟨ga,rfl,by omega,by omega,h.a⟩,.inr ⟨g1,rfl,by omega,by omega,h.b⟩,.inr ⟨g2,rfl,by omega,by omega,own_of_row5 h.l⟩,?_,?_,?_,?_,?_,?_⟩ <;>
 ·intro g e1 e2
  simp [blk] at e1 e2
  omega
theorem cpuIn_no (w:World) (base:Nat):CpuIn w base Pl.cpNo none none none none:=
 ⟨.inl ⟨rfl,rfl⟩,.inl ⟨rfl,rfl⟩,.inl ⟨rfl,rfl⟩,.inl ⟨rfl,rfl⟩,by simp [blk],by simp [blk],by simp [blk],by simp [blk],by simp [blk],by simp [blk]⟩
theorem results_cell_tmp {fn:Func} {p u1:Tmp} {ty:TypeId} (h:fn.results=#[.cell p ty,.tmp u1]) (tmps:Array Value) (P:Program) (w:World) :
  (results fn tmps).run P w=((asAddr (tmps.getD p undef)).run P w).andThen fun a w₁=>((loadVar ty a).run P w₁).andThen fun v w₂=>.ok (.tuple #[v,tmps.getD u1 undef]) w₂:=by
 simp only [results,h]
 simp [Sem.run_bind,Result.andThen]
def Pl.efOk (c:Pl.Cp) (f:Pl.Ft):Bool:=Pl.cpOk c&&(Pl.ftOk f && !c.ha)
def Pl.efC (c:Pl.Cp) (f:Pl.Ft):Pl.Cp:=bif Pl.efOk c f then Pl.entK c f c.r.m else Pl.cpNo
theorem Pl.GM.entM {c:Pl.Cp} {f:Pl.Ft} (h:Pl.cpOk c=true) (hl:c.bl.length=5*c.bm) (hf:Pl.ftOk f=true) (k:Int):Pl.GM (Pl.entM c f k):=by
 have G:Pl.GM (Pl.Mc.ofC c):=Pl.GM.of h hl c.st
 have hv:=(Pl.ft_ok hf).1
 exact G.ent (Pl.ftRow_ok (r:=c.r) G.g hf) (by omega) (by omega)
theorem specEnterFault (w:World) (c:Pl.Cp) (f:Pl.Ft) (a b e q:Option Addr) (ca cb ce cq:Nat) (ha:IRow w a c.r.xs) (hb:IRow w b c.r.ys) (he:IRow w e c.bx) (hq:IRow w q c.bl) (lx:c.r.xs.length≤2000000) (ly:c.r.ys.length≤2000000) (lb:c.bx.length≤2000000) (ll:c.bl.length=5*c.bm) (lm:c.bm≤2000000) :
  Calls prog 5 #[.agg (cpA c a b e q ca cb ce cq),.agg (ftA f)] w fun r w'=>∃(a' b' e' q':Option Addr) (ca' cb' ce' cq':Nat),r=.returned (.tuple #[.agg (cpuV (Pl.efC c f) a' b' e' q' ca' cb' ce' cq'),.bool (Pl.efOk c f)])∧CpuIn w' w.heap.size (Pl.efC c f) a' b' e' q'∧Kept 0 0 w w':=by
 have K0:=hide (kept_new (kept_new (kept_alloc w (.cells (cpA c a b e q ca cb ce cq) 38)) (.cells (ftA f) 42)) (.cells cpZ 38))
 have B0:=hide (((Blk.new w (cpA c a b e q ca cb ce cq) 38).alloc (.cells (ftA f) 42)).alloc (.cells cpZ 38))
 have F0:=(Blk.new (w.alloc (.cells (cpA c a b e q ca cb ce cq) 38)) (ftA f) 42).alloc (.cells cpZ 38)
 have R0:=Blk.new ((w.alloc (.cells (cpA c a b e q ca cb ce cq) 38)).alloc (.cells (ftA f) 42)) cpZ 38
 simp only [World.size_alloc] at F0 R0
 replace F0:=hide F0
 replace R0:=hide R0
 obtain ⟨X,hX⟩:∃X:World,((w.alloc (.cells (cpA c a b e q ca cb ce cq) 38)).alloc (.cells (ftA f) 42)).alloc (.cells cpZ 38)=X:=⟨_,rfl⟩
 rw [hX] at K0 B0 F0 R0
 have sX:w.heap.size+1+1<X.heap.size:=R0.out.lt
 have HA:=hide (ha.keptS K0.out)
 have HB:=hide (hb.keptS K0.out)
 have HE:=hide (he.keptS K0.out)
 have HQ:=hide (hq.keptS K0.out)
 clear ha hb he hq
 have p:=B0.out.all
 have p2:=F0.out.all
 have p3:=R0.out.all
 have p4:=R0.out.fz
 cases h1:Pl.cpOk c
 ·have EO:Hid (Pl.efOk c f=false):=hide (by unfold Pl.efOk;rw [h1];rfl)
  have EC:Hid (Pl.efC c f=Pl.cpNo):=hide (by unfold Pl.efC;rw [EO.out];rfl)
  go_enter func5,ntmps5
  go_wp2_with (first|(go_at_call 14;refine (specGoodCpu _ c a b e q ca cb ce cq HA.out HB.out HE.out HQ.out lx ly lb ll lm).mono ?_;rintro e9 W1 ⟨rfl,k9⟩;rw [h1];have KX:=hide k9;have K1:=hide (K0.out.trans k9);have B1:=hide (B0.out.kept0 k9);have F1:=hide (F0.out.kept0 k9);have R1:=hide (R0.out.kept0 k9);clear k9 p p2 p3 p4;have p:=B1.out.all;(try unfold cpA at p);(try rw [HH.out] at p);have p2:=F1.out.all;have p3:=R1.out.all;have p4:=R1.out.fz))
  have s0:=K0.out.size
  refine bodyPost_ret (v:=.tuple #[.agg cpZ,.bool false]) ?_ rfl ⟨none,none,none,none,0,0,0,0,by rw [EC.out,EO.out];rfl,by rw [EC.out];exact cpuIn_no _ _,?kw⟩
  case kw=>repeat (first|with_reducible exact K1.out|refine kept_set ?_ _ _ _ (.inr (by omega)))
  rw [results_cell_tmp rfl];go_simp
 ·cases h2:Pl.ftOk f
  ·have EO:Hid (Pl.efOk c f=false):=hide (by unfold Pl.efOk;rw [h1,h2];rfl)
   have EC:Hid (Pl.efC c f=Pl.cpNo):=hide (by unfold Pl.efC;rw [EO.out];rfl)
   go_enter func5,ntmps5
   go_wp2_with (first|(go_at_call 14;refine (specGoodCpu _ c a b e q ca cb ce cq HA.out HB.out HE.out HQ.out lx ly lb ll lm).mono ?_;rintro e9 W1 ⟨rfl,k9⟩;rw [h1];have KX:=hide k9;have K1:=hide (K0.out.trans k9);have B1:=hide (B0.out.kept0 k9);have F1:=hide (F0.out.kept0 k9);have R1:=hide (R0.out.kept0 k9);clear k9 p p2 p3 p4;have p:=B1.out.all;(try unfold cpA at p);(try rw [HH.out] at p);have p2:=F1.out.all;have p3:=R1.out.all;have p4:=R1.out.fz)|(go_at_call 15;refine (specGoodFault f _).mono ?_;rintro e9 W2 ⟨rfl,k9⟩;rw [h2];have KY:=hide (KX.out.trans k9);have K2:=hide (K1.out.trans k9);have B2:=hide (B1.out.kept0 k9);have F2:=hide (F1.out.kept0 k9);have R2:=hide (R1.out.kept0 k9);clear k9 p p2 p3 p4;have p:=B2.out.all;(try unfold cpA at p);(try rw [HH.out] at p);have p2:=F2.out.all;have p3:=R2.out.all;have p4:=R2.out.fz))
   have s0:=K0.out.size
   refine bodyPost_ret (v:=.tuple #[.agg cpZ,.bool false]) ?_ rfl ⟨none,none,none,none,0,0,0,0,by rw [EC.out,EO.out];rfl,by rw [EC.out];exact cpuIn_no _ _,?kw⟩
   case kw=>repeat (first|with_reducible exact K2.out|refine kept_set ?_ _ _ _ (.inr (by omega)))
   rw [results_cell_tmp rfl];go_simp
  ·rcases Bool.eq_false_or_eq_true c.ha with h3|h3
   ·have HH:=hide h3
    clear h3
    have EO:Hid (Pl.efOk c f=false):=hide (by unfold Pl.efOk;rw [h1,h2,HH.out];rfl)
    have EC:Hid (Pl.efC c f=Pl.cpNo):=hide (by unfold Pl.efC;rw [EO.out];rfl)
    go_enter func5,ntmps5
    go_wp2_with (first|(go_at_call 14;refine (specGoodCpu _ c a b e q ca cb ce cq HA.out HB.out HE.out HQ.out lx ly lb ll lm).mono ?_;rintro e9 W1 ⟨rfl,k9⟩;rw [h1];have KX:=hide k9;have K1:=hide (K0.out.trans k9);have B1:=hide (B0.out.kept0 k9);have F1:=hide (F0.out.kept0 k9);have R1:=hide (R0.out.kept0 k9);clear k9 p p2 p3 p4;have p:=B1.out.all;(try unfold cpA at p);(try rw [HH.out] at p);have p2:=F1.out.all;have p3:=R1.out.all;have p4:=R1.out.fz)|(go_at_call 15;refine (specGoodFault f _).mono ?_;rintro e9 W2 ⟨rfl,k9⟩;rw [h2];have KY:=hide (KX.out.trans k9);have K2:=hide (K1.out.trans k9);have B2:=hide (B1.out.kept0 k9);have F2:=hide (F1.out.kept0 k9);have R2:=hide (R1.out.kept0 k9);clear k9 p p2 p3 p4;have p:=B2.out.all;(try unfold cpA at p);(try rw [HH.out] at p);have p2:=F2.out.all;have p3:=R2.out.all;have p4:=R2.out.fz))
    have s0:=K0.out.size
    refine bodyPost_ret (v:=.tuple #[.agg cpZ,.bool false]) ?_ rfl ⟨none,none,none,none,0,0,0,0,by rw [EC.out,EO.out];rfl,by rw [EC.out];exact cpuIn_no _ _,?kw⟩
    case kw=>repeat (first|with_reducible exact K2.out|refine kept_set ?_ _ _ _ (.inr (by omega)))
    rw [results_cell_tmp rfl];go_simp
   ·have EO:Hid (Pl.efOk c f=true):=hide (by unfold Pl.efOk;rw [h1,h2,h3];rfl)
    have EC:Hid (Pl.efC c f=Pl.entK c f c.r.m):=hide (by unfold Pl.efC;rw [EO.out];rfl)
    have GN:=hide (Pl.GM.entM h1 ll h2 c.r.m)
    have HH:=hide h3
    clear h3
    have HG:=hide (Pl.GM.of h1 ll c.st)
    have HENT:∀(w9:World) (ra:IRow w9 a c.r.xs) (rb:IRow w9 b c.r.ys) (re:IRow w9 e c.bx) (rq:IRow w9 q c.bl),Calls prog 16 #[.agg (cpA c a b e q ca cb ce cq),.agg (ftA f),iv c.r.m] w9 fun r w'=>∃gd cd ga cA g1 c1 g2 c2 mid:Nat,r=.returned (.agg (cpuC (Pl.entK c f c.r.m) gd cd ga cA g1 c1 g2 c2))∧CO w' w9.heap.size mid (Pl.entK c f c.r.m) gd ga g1 g2 c2∧Kept 0 0 w9 w':=by
     intro w9 ra rb re rq
     have z:=mEnter w9 c f c.r.m a b e q ca cb ce cq ra rb re rq h1 ll h2 HG.out.g.m0 HG.out.g.m1
     have h4:c.r.xs.length=4:=HG.out.g.d4
     have h5:c.r.ys.length=4:=HG.out.g.a4
     have hbx:c.bx.length=512:=HG.out.bx
     try unfold cpA
     rw [h4,h5,hbx]
     exact z
    go_enter func5,ntmps5
    go_wp2_with (first|(go_at_call 14;refine (specGoodCpu _ c a b e q ca cb ce cq HA.out HB.out HE.out HQ.out lx ly lb ll lm).mono ?_;rintro e9 W1 ⟨rfl,k9⟩;rw [h1];have KX:=hide k9;have K1:=hide (K0.out.trans k9);have B1:=hide (B0.out.kept0 k9);have F1:=hide (F0.out.kept0 k9);have R1:=hide (R0.out.kept0 k9);clear k9 p p2 p3 p4;have p:=B1.out.all;(try unfold cpA at p);(try rw [HH.out] at p);have p2:=F1.out.all;have p3:=R1.out.all;have p4:=R1.out.fz)|(go_at_call 15;refine (specGoodFault f _).mono ?_;rintro e9 W2 ⟨rfl,k9⟩;rw [h2];have KY:=hide (KX.out.trans k9);have K2:=hide (K1.out.trans k9);have B2:=hide (B1.out.kept0 k9);have F2:=hide (F1.out.kept0 k9);have R2:=hide (R1.out.kept0 k9);clear k9 p p2 p3 p4;have p:=B2.out.all;(try unfold cpA at p);(try rw [HH.out] at p);have p2:=F2.out.all;have p3:=R2.out.all;have p4:=R2.out.fz)|(go_at_call 16;have hr9:=HENT W2 (HA.out.keptS KY.out) (HB.out.keptS KY.out) (HE.out.keptS KY.out) (HQ.out.keptS KY.out);(try unfold cpA at hr9);rw [HH.out] at hr9;refine hr9.mono ?_;clear hr9;unfold cpuC;rintro e9 W3 ⟨gd,cd,ga,cA,g1,c1,g2,c2,mid,rfl,hc9,k9⟩;have C3:=hide hc9;have K3:=hide (K2.out.trans k9);have R3:=hide (R2.out.kept0 k9);have z9:=KY.out.size;have z8:=k9.size;clear k9 hc9 p p2 p3 p4;have p3:=R3.out.all;have p4:=R3.out.fz))
    have s0:=K0.out.size
    refine bodyPost_ret (v:=.tuple #[.agg (cpuV (Pl.efC c f) (some ⟨gd,0,none⟩) (some ⟨ga,0,none⟩) (some ⟨g1,0,none⟩) (some ⟨g2,0,none⟩) cd cA c1 c2),.bool (Pl.efOk c f)]) ?_ rfl ⟨some ⟨gd,0,none⟩,some ⟨ga,0,none⟩,some ⟨g1,0,none⟩,some ⟨g2,0,none⟩,cd,cA,c1,c2,rfl,?co,?kw⟩
    case co=>
     rw [EC.out]
     refine (CO.pst (lo:=w.heap.size) (x:=w.heap.size+1+1) (y:=w.heap.size+1+1+1) C3.out (by omega) (by omega) ?_).cpuIn
     repeat (first|with_reducible exact Kept.refl _ _ _|refine kept_set ?_ _ _ _ (.inl (by omega)))
    case kw=>repeat (first|with_reducible exact K3.out|refine kept_set ?_ _ _ _ (.inr (by omega)))
    have LN:Hid ((Pl.entK c f c.r.m).r.xs.length=4∧(Pl.entK c f c.r.m).r.ys.length=4∧(Pl.entK c f c.r.m).bx.length=512):=hide ⟨GN.out.g.d4,GN.out.g.a4,GN.out.bx⟩
    rw [results_cell_tmp rfl,EC.out,EO.out];unfold cpuV;rw [LN.out.1,LN.out.2.1,LN.out.2.2];go_simp
theorem signedAs8 (v:Int) (w:World) (lo : -9223372036854775808≤v) (hi:v≤9223372036854775807) :
  Calls prog 98 #[iv v] w fun e w'=>e=.returned (.tuple #[iv (Pl.sgnV 1 v),.bool (Pl.okv 1 v)])∧w'=w:=by
 by_cases h:0≤v∧v<256
 ·obtain ⟨h0,h1⟩:=h
  have hs:IntKind.u8.signed=false:=rfl
  have hm:IntKind.u8.max=255:=by decide
  have hb:bits .xor .u8 255 0=255:=by decide
  by_cases h:127<v
  all_goals
   go_enter func98,ntmps98
   go_wp2
   go_ret2
   exact ⟨rIB (by simp [Pl.sgnV,Pl.okv,Pl.sg,Pl.top,h0,h1];omega) (by simp [Pl.okv,Pl.top,h0,h1]),rfl⟩
 ·go_enter func98,ntmps98
  go_wp2
  go_ret2
  have k:Pl.okv 1 v=false:=by
   cases c:Pl.okv 1 v
   ·rfl
   ·have:=Pl.top_ok c;omega
  exact ⟨rIB (by simp [Pl.sgnV,k]) k.symm,rfl⟩
theorem signedAs16 (v:Int) (w:World) (lo : -9223372036854775808≤v) (hi:v≤9223372036854775807) :
  Calls prog 99 #[iv v] w fun e w'=>e=.returned (.tuple #[iv (Pl.sgnV 2 v),.bool (Pl.okv 2 v)])∧w'=w:=by
 by_cases h:0≤v∧v<65536
 ·obtain ⟨h0,h1⟩:=h
  have hs:IntKind.u16.signed=false:=rfl
  have hm:IntKind.u16.max=65535:=by decide
  have hb:bits .xor .u16 65535 0=65535:=by decide
  by_cases h:32767<v
  all_goals
   go_enter func99,ntmps99
   go_wp2
   go_ret2
   exact ⟨rIB (by simp [Pl.sgnV,Pl.okv,Pl.sg,Pl.top,h0,h1];omega) (by simp [Pl.okv,Pl.top,h0,h1]),rfl⟩
 ·have hw:IntKind.u16.wrap v=v%65536:=IntKind.wrap_u16 v
  go_enter func99,ntmps99
  go_wp2
  go_ret2
  have k:Pl.okv 2 v=false:=by
   cases c:Pl.okv 2 v
   ·rfl
   ·have:=Pl.top_ok c;omega
  exact ⟨rIB (by simp [Pl.sgnV,k]) k.symm,rfl⟩
theorem signedOf (s v:Int) (w:World) (lo : -9223372036854775808≤v) (hi:v≤9223372036854775807) :
  Calls prog 80 #[iv s,iv v] w fun e w'=>e=.returned (.tuple #[iv (Pl.sgnV s v),.bool (Pl.okv s v)])∧w'=w:=by
 by_cases h1:s=1
 ·subst h1
  go_enter func80,ntmps80
  go_wp2_with fail
  refine (signedAs8 v _ lo hi).mono ?_
  rintro e w' ⟨rfl,rfl⟩
  go_wp2_with fail
  go_ret2
  exact ⟨rfl,rfl⟩
 ·by_cases h2:s=2
  ·subst h2
   go_enter func80,ntmps80
   go_wp2_with fail
   refine (signedAs16 v _ lo hi).mono ?_
   rintro e w' ⟨rfl,rfl⟩
   go_wp2_with fail
   go_ret2
   exact ⟨rfl,rfl⟩
  ·have k:Pl.okv s v=false:=by simp [Pl.okv,h1,h2]
   have k1:(s==1)=false:=by simpa using h1
   have k2:(s==2)=false:=by simpa using h2
   go_enter func80,ntmps80
   go_wp2_with fail
   go_ret2
   exact ⟨rIB (by simp [Pl.sgnV,k]) k.symm,rfl⟩
theorem wfB {v:Int} (h:(Lit.int .i64 v).wf=true) : -9223372036854775808≤v∧v≤9223372036854775807:=bounds_i64 h
theorem okv2 (v:Int):Pl.okv 2 v=Pl.wordOk v:=by
 unfold Pl.okv Pl.wordOk Pl.within Pl.top
 rw [Bool.eq_iff_iff];simp;omega
theorem isWord (v:Int) (w:World) (lo : -9223372036854775808≤v) (hi:v≤9223372036854775807) :
  Calls prog 48 #[iv v] w fun e w'=>e=.returned (.bool (Pl.wordOk v))∧w'=w:=by
 go_enter func48,ntmps48
 go_wp2_with (go_at_call 80;refine (signedOf _ _ _ lo hi).mono ?_;rintro e w' ⟨rfl,hw⟩;have hw2:=hw.symm;clear hw;subst hw2;rw [okv2])
 go_ret
 exact ⟨rfl,rfl⟩
theorem wrapWord (v:Int) (w:World):Calls prog 85 #[iv v] w fun e w'=>e=.returned (iv (v%65536))∧w'=w:=by
 have hW:=IntKind.wrap_u16 v
 go_enter func85,ntmps85
 go_wp2
 go_ret
 exact ⟨rfl,rfl⟩
theorem isFlags6 (k:Int) (w:World):Calls prog 77 #[iv k] w fun e w'=>e=.returned (.bool (Pl.within k 0 31))∧w'=w:=by
 by_cases h0:0≤k
 ·by_cases h1:k≤31
  ·go_enter func77,ntmps77
   go_wp2
   go_ret
   exact ⟨rB (by simp [Pl.within,h0,h1]),rfl⟩
  ·go_enter func77,ntmps77
   go_wp2
   go_ret
   exact ⟨rB (by simp [Pl.within,h0];omega),rfl⟩
 ·go_enter func77,ntmps77
  go_wp2
  go_ret
  exact ⟨rB (by simp [Pl.within];omega),rfl⟩
theorem areWords (w:World) (a:Option Addr) (ca:Nat) (xs:List Int) (ha:Came w a xs) (lx:xs.length≤2000000) :
  Calls prog 76 #[.slice a xs.length ca] w fun e w'=>e=.returned (.bool (xs.all Pl.wordOk))∧w'=w:=by
 have HA:=hide ha
 clear ha
 go_enter func76,ntmps76
 go_wp2
 go_loop [4,7] (fun _ j=>∃k:Nat,k≤xs.length∧j=iv k∧∀i,i<k→Pl.wordOk (el xs i)=true) (fun _ j=>xs.length-(intOf j).toNat)
 case atStart=>exact ⟨0,Nat.zero_le _,rfl,fun i hi=>absurd hi (Nat.not_lt_zero i)⟩
 case round=>
  obtain ⟨k,hk,rfl,heq⟩:=hrel
  have HE:=hide heq
  clear heq
  by_cases hlt:k<xs.length
  ·obtain ⟨g1,o1,rfl,hc1⟩:=HA.out.1 k hlt
   obtain ⟨lo,hi⟩:=HA.out.2 k hlt
   rw [show xs[k]?.getD 0=el xs k from rfl] at hc1 lo hi
   cases hb:Pl.wordOk (el xs k)
   ·go_wp2_with (go_at_call 48;refine (isWord _ _ lo hi).mono ?_;rintro e w' ⟨rfl,rfl⟩;rw [hb])
    go_ret
    refine ⟨rB ?_,rfl⟩
    have hm:xs[k]'hlt∈xs:=List.getElem_mem hlt
    have he:el xs k=xs[k]'hlt:=by simp [el,List.getElem?_eq_getElem hlt]
    rw [he] at hb
    cases hq:xs.all Pl.wordOk
    ·rfl
    ·have:=List.all_eq_true.1 hq _ hm
     rw [hb] at this;cases this
   ·go_wp2_with (go_at_call 48;refine (isWord _ _ lo hi).mono ?_;rintro e w' ⟨rfl,rfl⟩;rw [hb])
    go_round
    case rel=>exact ⟨k+1,by omega,by go_num,snoc_all HE.out hb⟩
    case measure=>simp [intOf];omega
  ·go_wp2
   go_ret
   refine ⟨rB ?_,rfl⟩
   symm
   rw [List.all_eq_true]
   intro x hx
   obtain ⟨i,hi,rfl⟩:=List.getElem_of_mem hx
   have:=HE.out i (by omega)
   simpa [el,List.getElem?_eq_getElem hi] using this
theorem flagsIf6 (b:Bool) (f:Int) (w:World):Calls prog 83 #[.bool b,iv f] w fun e w'=>e=.returned (iv (Pl.fl1 b f))∧w'=w:=by
 cases b
 all_goals
  go_enter func83,ntmps83
  go_wp2
  go_ret
  exact ⟨rfl,rfl⟩
theorem implGoodRegs (w:World) (d:Pl.Rg) (a b:Option Addr) (ca cb:Nat) (ha:Came w a d.xs) (hb:Came w b d.ys) (lx:d.xs.length≤2000000) (ly:d.ys.length≤2000000) (wfd:Pl.WfR d) :
  Calls prog 46 #[.agg #[.slice a d.xs.length ca,.slice b d.ys.length cb,iv d.o,iv d.p,iv d.f,iv d.m,.bool d.s,.bool d.t]] w fun e w'=>e=.returned (.bool (Pl.rgOk d))∧Kept 0 0 w w':=by
 have HA:=hide ha
 have HB:=hide hb
 have HK:=hide (kept_alloc w (.cells #[.slice a d.xs.length ca,.slice b d.ys.length cb,iv d.o,iv d.p,iv d.f,iv d.m,.bool d.s,.bool d.t] 33))
 clear ha hb
 have G:Hid (Pl.rgOk d=((d.xs.all Pl.wordOk&&decide ((d.xs.length:Int)=4))&&((d.ys.all Pl.wordOk&&decide ((d.ys.length:Int)=4))&&(Pl.wordOk d.o&&(Pl.wordOk d.p&&(Pl.within d.f 0 31&&(decide (0≤d.m)&&decide (d.m≤7)))))))):=hide rfl
 cases l1:((d.xs.length:Int)==4)
 ·have q1:decide ((d.xs.length:Int)=4)=false:=by simpa using l1
  go_enter func46,ntmps46
  go_wp2
  go_ret
  exact ⟨rB (by rw [G.out,q1];simp),HK.out⟩
 ·have q1:decide ((d.xs.length:Int)=4)=true:=by simpa using l1
  cases h2:d.xs.all Pl.wordOk
  ·have qh2:True:=trivial
   go_enter func46,ntmps46
   go_wp2_with (first|(go_at_call 76;refine (areWords _ a ca d.xs (HA.out.keptS HK.out) lx).mono ?_;rintro e w' ⟨rfl,hw⟩;have hw2:=hw.symm;clear hw;subst hw2;rw [h2];have Z1:True:=trivial))
   go_ret
   exact ⟨rB (by rw [G.out,q1,h2];simp),HK.out⟩
  ·have qh2:True:=trivial
   cases l3:((d.ys.length:Int)==4)
   ·have q3:decide ((d.ys.length:Int)=4)=false:=by simpa using l3
    go_enter func46,ntmps46
    go_wp2_with (first|(go_at_call 76;refine (areWords _ a ca d.xs (HA.out.keptS HK.out) lx).mono ?_;rintro e w' ⟨rfl,hw⟩;have hw2:=hw.symm;clear hw;subst hw2;rw [h2];have Z1:True:=trivial))
    go_ret
    exact ⟨rB (by rw [G.out,q1,h2,q3];simp),HK.out⟩
   ·have q3:decide ((d.ys.length:Int)=4)=true:=by simpa using l3
    cases h4:d.ys.all Pl.wordOk
    ·have qh4:True:=trivial
     go_enter func46,ntmps46
     go_wp2_with (first|(go_at_call 76;have z:=Z1;refine (areWords _ b cb d.ys (HB.out.keptS HK.out) ly).mono ?_;rintro e w' ⟨rfl,hw⟩;have hw2:=hw.symm;clear hw;subst hw2;rw [h4])|(go_at_call 76;refine (areWords _ a ca d.xs (HA.out.keptS HK.out) lx).mono ?_;rintro e w' ⟨rfl,hw⟩;have hw2:=hw.symm;clear hw;subst hw2;rw [h2];have Z1:True:=trivial))
     go_ret
     exact ⟨rB (by rw [G.out,q1,h2,q3,h4];simp),HK.out⟩
    ·have qh4:True:=trivial
     cases h5:Pl.wordOk d.o
     ·have qh5:True:=trivial
      go_enter func46,ntmps46
      go_wp2_with (first|(go_at_call 76;have z:=Z1;refine (areWords _ b cb d.ys (HB.out.keptS HK.out) ly).mono ?_;rintro e w' ⟨rfl,hw⟩;have hw2:=hw.symm;clear hw;subst hw2;rw [h4])|(go_at_call 76;refine (areWords _ a ca d.xs (HA.out.keptS HK.out) lx).mono ?_;rintro e w' ⟨rfl,hw⟩;have hw2:=hw.symm;clear hw;subst hw2;rw [h2];have Z1:True:=trivial)|(go_at_call 48;refine (isWord d.o _ (wfB wfd.o).1 (wfB wfd.o).2).mono ?_;rintro e w' ⟨rfl,hw⟩;have hw2:=hw.symm;clear hw;subst hw2;rw [h5];have Z3:True:=trivial))
      go_ret
      exact ⟨rB (by rw [G.out,q1,h2,q3,h4,h5];simp),HK.out⟩
     ·have qh5:True:=trivial
      cases h6:Pl.wordOk d.p
      ·have qh6:True:=trivial
       go_enter func46,ntmps46
       go_wp2_with (first|(go_at_call 76;have z:=Z1;refine (areWords _ b cb d.ys (HB.out.keptS HK.out) ly).mono ?_;rintro e w' ⟨rfl,hw⟩;have hw2:=hw.symm;clear hw;subst hw2;rw [h4])|(go_at_call 76;refine (areWords _ a ca d.xs (HA.out.keptS HK.out) lx).mono ?_;rintro e w' ⟨rfl,hw⟩;have hw2:=hw.symm;clear hw;subst hw2;rw [h2];have Z1:True:=trivial)|(go_at_call 48;have z:=Z3;refine (isWord d.p _ (wfB wfd.p).1 (wfB wfd.p).2).mono ?_;rintro e w' ⟨rfl,hw⟩;have hw2:=hw.symm;clear hw;subst hw2;rw [h6])|(go_at_call 48;refine (isWord d.o _ (wfB wfd.o).1 (wfB wfd.o).2).mono ?_;rintro e w' ⟨rfl,hw⟩;have hw2:=hw.symm;clear hw;subst hw2;rw [h5];have Z3:True:=trivial))
       go_ret
       exact ⟨rB (by rw [G.out,q1,h2,q3,h4,h5,h6];simp),HK.out⟩
      ·have qh6:True:=trivial
       cases h7:Pl.within d.f 0 31
       ·have qh7:True:=trivial
        go_enter func46,ntmps46
        go_wp2_with (first|(go_at_call 76;have z:=Z1;refine (areWords _ b cb d.ys (HB.out.keptS HK.out) ly).mono ?_;rintro e w' ⟨rfl,hw⟩;have hw2:=hw.symm;clear hw;subst hw2;rw [h4])|(go_at_call 76;refine (areWords _ a ca d.xs (HA.out.keptS HK.out) lx).mono ?_;rintro e w' ⟨rfl,hw⟩;have hw2:=hw.symm;clear hw;subst hw2;rw [h2];have Z1:True:=trivial)|(go_at_call 48;have z:=Z3;refine (isWord d.p _ (wfB wfd.p).1 (wfB wfd.p).2).mono ?_;rintro e w' ⟨rfl,hw⟩;have hw2:=hw.symm;clear hw;subst hw2;rw [h6])|(go_at_call 48;refine (isWord d.o _ (wfB wfd.o).1 (wfB wfd.o).2).mono ?_;rintro e w' ⟨rfl,hw⟩;have hw2:=hw.symm;clear hw;subst hw2;rw [h5];have Z3:True:=trivial)|(go_at_call 77;refine (isFlags6 d.f _).mono ?_;rintro e w' ⟨rfl,hw⟩;have hw2:=hw.symm;clear hw;subst hw2;rw [h7]))
        go_ret
        exact ⟨rB (by rw [G.out,q1,h2,q3,h4,h5,h6,h7];simp),HK.out⟩
       ·have qh7:True:=trivial
        cases h8:decide (0≤d.m)
        ·have qh8:True:=trivial
         go_enter func46,ntmps46
         go_wp2_with (first|(go_at_call 76;have z:=Z1;refine (areWords _ b cb d.ys (HB.out.keptS HK.out) ly).mono ?_;rintro e w' ⟨rfl,hw⟩;have hw2:=hw.symm;clear hw;subst hw2;rw [h4])|(go_at_call 76;refine (areWords _ a ca d.xs (HA.out.keptS HK.out) lx).mono ?_;rintro e w' ⟨rfl,hw⟩;have hw2:=hw.symm;clear hw;subst hw2;rw [h2];have Z1:True:=trivial)|(go_at_call 48;have z:=Z3;refine (isWord d.p _ (wfB wfd.p).1 (wfB wfd.p).2).mono ?_;rintro e w' ⟨rfl,hw⟩;have hw2:=hw.symm;clear hw;subst hw2;rw [h6])|(go_at_call 48;refine (isWord d.o _ (wfB wfd.o).1 (wfB wfd.o).2).mono ?_;rintro e w' ⟨rfl,hw⟩;have hw2:=hw.symm;clear hw;subst hw2;rw [h5];have Z3:True:=trivial)|(go_at_call 77;refine (isFlags6 d.f _).mono ?_;rintro e w' ⟨rfl,hw⟩;have hw2:=hw.symm;clear hw;subst hw2;rw [h7]))
         go_ret
         exact ⟨rB (by rw [G.out,q1,h2,q3,h4,h5,h6,h7,h8];simp),HK.out⟩
        ·have qh8:True:=trivial
         cases h9:decide (d.m≤7)
         ·have qh9:True:=trivial
          go_enter func46,ntmps46
          go_wp2_with (first|(go_at_call 76;have z:=Z1;refine (areWords _ b cb d.ys (HB.out.keptS HK.out) ly).mono ?_;rintro e w' ⟨rfl,hw⟩;have hw2:=hw.symm;clear hw;subst hw2;rw [h4])|(go_at_call 76;refine (areWords _ a ca d.xs (HA.out.keptS HK.out) lx).mono ?_;rintro e w' ⟨rfl,hw⟩;have hw2:=hw.symm;clear hw;subst hw2;rw [h2];have Z1:True:=trivial)|(go_at_call 48;have z:=Z3;refine (isWord d.p _ (wfB wfd.p).1 (wfB wfd.p).2).mono ?_;rintro e w' ⟨rfl,hw⟩;have hw2:=hw.symm;clear hw;subst hw2;rw [h6])|(go_at_call 48;refine (isWord d.o _ (wfB wfd.o).1 (wfB wfd.o).2).mono ?_;rintro e w' ⟨rfl,hw⟩;have hw2:=hw.symm;clear hw;subst hw2;rw [h5];have Z3:True:=trivial)|(go_at_call 77;refine (isFlags6 d.f _).mono ?_;rintro e w' ⟨rfl,hw⟩;have hw2:=hw.symm;clear hw;subst hw2;rw [h7]))
          go_ret
          exact ⟨rB (by rw [G.out,q1,h2,q3,h4,h5,h6,h7,h8,h9];simp),HK.out⟩
         ·have qh9:True:=trivial
          go_enter func46,ntmps46
          go_wp2_with (first|(go_at_call 76;have z:=Z1;refine (areWords _ b cb d.ys (HB.out.keptS HK.out) ly).mono ?_;rintro e w' ⟨rfl,hw⟩;have hw2:=hw.symm;clear hw;subst hw2;rw [h4])|(go_at_call 76;refine (areWords _ a ca d.xs (HA.out.keptS HK.out) lx).mono ?_;rintro e w' ⟨rfl,hw⟩;have hw2:=hw.symm;clear hw;subst hw2;rw [h2];have Z1:True:=trivial)|(go_at_call 48;have z:=Z3;refine (isWord d.p _ (wfB wfd.p).1 (wfB wfd.p).2).mono ?_;rintro e w' ⟨rfl,hw⟩;have hw2:=hw.symm;clear hw;subst hw2;rw [h6])|(go_at_call 48;refine (isWord d.o _ (wfB wfd.o).1 (wfB wfd.o).2).mono ?_;rintro e w' ⟨rfl,hw⟩;have hw2:=hw.symm;clear hw;subst hw2;rw [h5];have Z3:True:=trivial)|(go_at_call 77;refine (isFlags6 d.f _).mono ?_;rintro e w' ⟨rfl,hw⟩;have hw2:=hw.symm;clear hw;subst hw2;rw [h7]))
          go_ret
          exact ⟨rB (by rw [G.out,q1,h2,q3,h4,h5,h6,h7,h8,h9];simp),HK.out⟩
def bkR (r:Pl.Rg):Array Value:=#[iv (el r.xs 0),iv (el r.xs 1),iv (el r.xs 2),iv (el r.xs 3),iv (el r.ys 0),iv (el r.ys 1),iv (el r.ys 2),iv (el r.ys 3),iv r.o,iv r.p,iv r.f,iv r.m,.bool r.s,.bool r.t]
theorem bkR_one (r:Pl.Rg):(bkR r).all (·.oneCell')=true:=by simp [bkR,Value.oneCell']
theorem bkR_info (r:Pl.Rg):(prog.info? 81).map (·.size)=some (bkR r).size:=by
 have:(prog.info? 81).map (·.size)=some 14:=by kernel_rfl
 exact this
theorem list4 {xs:List Int} (h:xs.length=4):xs=[el xs 0,el xs 1,el xs 2,el xs 3]:=by
 match xs,h with
 | [a,b,c,d],_=>rfl
theorem mk4 (w:World):(Instr.makeSlice 22 (iv 4) (iv 4)).run prog w=.ok (.slice (some ⟨w.heap.size,0,none⟩) 4 4) (w.alloc (.cells #[iv 0,iv 0,iv 0,iv 0] 3)):=by kernel_rfl
theorem listOf4 (x0 x1 x2 x3:Int) (w:World) :
  Calls prog 87 #[.agg #[iv x0,iv x1,iv x2,iv x3]] w fun e w'=>e=.returned (.slice (some ⟨w.heap.size+1,0,none⟩) 4 4)∧Blk w' (w.heap.size+1) (cellsOf [x0,x1,x2,x3]) 3∧Kept 0 0 w w':=by
 have B0:Blk ((w.alloc (.cells #[iv x0,iv x1,iv x2,iv x3] 79)).alloc (.cells #[iv 0,iv 0,iv 0,iv 0] 3)) w.heap.size (cellsOf [x0,x1,x2,x3]) 79:=(Blk.new w #[iv x0,iv x1,iv x2,iv x3] 79).alloc _
 have B1:=Blk.new (w.alloc (.cells #[iv x0,iv x1,iv x2,iv x3] 79)) #[iv 0,iv 0,iv 0,iv 0] 3
 simp only [World.size_alloc] at B1
 obtain ⟨W1,hcopy,C1,k1⟩:=copy_at _ (w.heap.size+1) 0 4 4 4 (some ⟨w.heap.size,0,none⟩) [x0,x1,x2,x3] [iv 0,iv 0,iv 0,iv 0] 3 B1 (own_of_blk B0).row (by simp) (by simp)
 have hc:(Builtin.copy_ #[22,22] 3 #[.slice (some ⟨w.heap.size+1,0,none⟩) 4 4,.slice (some ⟨w.heap.size,0,none⟩) 4 4]).run prog ((w.alloc (.cells #[iv x0,iv x1,iv x2,iv x3] 79)).alloc (.cells #[iv 0,iv 0,iv 0,iv 0] 3))=.ok (iv 4) W1:=hcopy
 have C:=hide (show Blk W1 (w.heap.size+1) (cellsOf [x0,x1,x2,x3]) 3 from C1)
 have K:=hide (kept_over (kept_new (kept_alloc w _) _) k1 (by omega))
 clear B0 B1 hcopy C1 k1
 have mk:=mk4
 go_enter func87,ntmps87
 go_wp2
 go_ret
 exact ⟨rfl,C.out,K.out⟩
theorem bankOf (w:World) (d:Pl.Rg) (a b:Option Addr) (ca cb:Nat) (ha:IRow w a d.xs) (hb:IRow w b d.ys) (lx:d.xs.length=4) (ly:d.ys.length=4) :
  Calls prog 50 #[.agg #[.slice a d.xs.length ca,.slice b d.ys.length cb,iv d.o,iv d.p,iv d.f,iv d.m,.bool d.s,.bool d.t]] w fun e w'=>e=.returned (.agg (bkR d))∧Kept 0 0 w w':=by
 rw [lx,ly]
 obtain ⟨W0,h0⟩:∃W:World,W=((w.alloc (.cells #[.slice a 4 ca,.slice b 4 cb,iv d.o,iv d.p,iv d.f,iv d.m,.bool d.s,.bool d.t] 33)).alloc (.cells #[iv 0,iv 0,iv 0,iv 0,iv 0,iv 0,iv 0,iv 0,iv 0,iv 0,iv 0,iv 0,.bool false,.bool false] 81)).alloc (.cells #[iv 0,iv 0,iv 0,iv 0,iv 0,iv 0,iv 0,iv 0,iv d.o,iv d.p,iv d.f,iv d.m,.bool d.s,.bool d.t] 81):=⟨_,rfl⟩
 have R0:Blk W0 w.heap.size #[.slice a 4 ca,.slice b 4 cb,iv d.o,iv d.p,iv d.f,iv d.m,.bool d.s,.bool d.t] 33:=by rw [h0];exact ((Blk.new w _ _).alloc _).alloc _
 have Z0:Blk W0 (w.heap.size+1) #[iv 0,iv 0,iv 0,iv 0,iv 0,iv 0,iv 0,iv 0,iv 0,iv 0,iv 0,iv 0,.bool false,.bool false] 81:=by
  rw [h0]
  have:=Blk.new (w.alloc (.cells #[.slice a 4 ca,.slice b 4 cb,iv d.o,iv d.p,iv d.f,iv d.m,.bool d.s,.bool d.t] 33)) #[iv 0,iv 0,iv 0,iv 0,iv 0,iv 0,iv 0,iv 0,iv 0,iv 0,iv 0,iv 0,.bool false,.bool false] 81
  simp only [World.size_alloc] at this
  exact this.alloc _
 have B0:Blk W0.drew (w.heap.size+1+1) #[iv 0,iv 0,iv 0,iv 0,iv 0,iv 0,iv 0,iv 0,iv d.o,iv d.p,iv d.f,iv d.m,.bool d.s,.bool d.t] 81:=by
  rw [h0]
  have:=Blk.new ((w.alloc (.cells #[.slice a 4 ca,.slice b 4 cb,iv d.o,iv d.p,iv d.f,iv d.m,.bool d.s,.bool d.t] 33)).alloc (.cells #[iv 0,iv 0,iv 0,iv 0,iv 0,iv 0,iv 0,iv 0,iv 0,iv 0,iv 0,iv 0,.bool false,.bool false] 81)) #[iv 0,iv 0,iv 0,iv 0,iv 0,iv 0,iv 0,iv 0,iv d.o,iv d.p,iv d.f,iv d.m,.bool d.s,.bool d.t] 81
  simp only [World.size_alloc] at this
  exact this
 have K0:Kept 0 0 w W0.drew:=by rw [h0];exact kept_drew (kept_new (kept_new (kept_alloc w _) _) _)
 have r00:=R0.cell (i:=0) rfl
 have r01:=R0.cell (i:=1) rfl
 obtain ⟨W1,hc1,B1,k1⟩:=copy_at W0.drew (w.heap.size+1+1) 0 4 4 ca a d.xs _ _ B0 (ha.keptS K0) (by omega) (by rw [lx];simp)
 have K1:Kept 0 0 w W1.drew:=kept_drew (kept_over K0 k1 (by omega))
 have R1:Blk W1 w.heap.size #[.slice a 4 ca,.slice b 4 cb,iv d.o,iv d.p,iv d.f,iv d.m,.bool d.s,.bool d.t] 33:=Blk.kept (show Blk W0.drew _ _ _ from R0) k1 (by omega)
 have r11:=R1.cell (i:=1) rfl
 obtain ⟨W2,hc2,B2,k2⟩:=copy_at W1.drew (w.heap.size+1+1) 4 4 4 cb b d.ys _ _ (show Blk W1.drew _ _ _ from B1) (hb.keptS K1) (by omega) (by rw [ly,length_splice _ _ _ (by simp [lx])];simp)
 have Z1:=Blk.kept (show Blk W0.drew _ _ _ from Z0) k1 (by omega)
 have Z2:=hide (Blk.kept (show Blk W1.drew _ _ _ from Z1) k2 (by omega))
 have K2:=hide (kept_over K1 k2 (by omega))
 rw [lx] at hc1
 rw [ly] at hc2
 have D2:Hid (Blk W2 (w.heap.size+1+1) (bkR d) 81):=hide (by
  rw [list4 lx,list4 ly] at B2
  exact B2)
 clear B0 B1 B2 k1 k2 K0 K1 R0 Z0 R1 Z1
 go_enter func50,ntmps50
 go_wp2_with fail
 rw [←h0]
 clear h0
 go_region
 go_wp2_with fail
 go_region
 go_wp2_with (first|(refine wpList_load_row rfl 81 (.tmp 3) rfl (w.heap.size+1+1) rfl 81 (bkR d) (0,0) _ D2.out underlying81 rfl (bkR_info d) ?_)|(refine wpList_store_row rfl 81 (.tmp 2) (.tmp 27) rfl (w.heap.size+1) (bkR d) rfl rfl 81 _ Z2.out (bkR_info d) rfl (bkR_one d) ?_))
 refine bodyPost_ret (v:=.agg (bkR d)) ?_ rfl ⟨rfl,kept_setRow K2.out _ _ (by omega)⟩
 exact results_cell_row rfl _ _ _ _ _ (0,0) _ rfl Z2.out.setRow underlying81 rfl (bkR_info d)
theorem bkY {r:Pl.Rg} (h:r.ys.length=4) {k:Nat} (hk:k<4) (z:Int):bkR {r with ys:=r.ys.set k z}=(bkR r).setIfInBounds (4+k) (iv z):=by
 obtain ⟨xs,ys,o,p,f,m,s,t⟩:=r
 match ys,h with
 | [a,b,c,d],_=>
  have:k=0∨k=1∨k=2∨k=3:=by omega
  rcases this with rfl|rfl|rfl|rfl<;>rfl
def cor (r:Pl.Rg) (xs:List Int) (u:Value) (st ha:Bool):Array Value:=bkR r++(cellsOf xs++#[u,.bool st,.bool ha])
theorem set_left {A B:Array Value} {i:Nat} (h:i<A.size) (v:Value):(A++B).setIfInBounds i v=A.setIfInBounds i v++B:=by
 apply Array.ext_getElem?
 intro j
 simp only [Array.getElem?_setIfInBounds,Array.getElem?_append,Array.size_append,Array.size_setIfInBounds]
 by_cases e:i=j
 ·subst e;simp [h];omega
 ·simp [e]
theorem set_right {A B:Array Value} (i:Nat) (v:Value):(A++B).setIfInBounds (A.size+i) v=A++B.setIfInBounds i v:=by
 apply Array.ext_getElem?
 intro j
 simp only [Array.getElem?_setIfInBounds,Array.getElem?_append,Array.size_append]
 by_cases e:A.size+i=j
 ·subst e;simp;omega
 ·by_cases h:j<A.size
  ·simp [e,h]
  ·simp [e,h,show ¬i=j-A.size by omega]
theorem Since.mine {w a b:World} {lo hi x y g g':Nat} (h:Since w lo hi g a g') (k:Kept x y a b) (hx:w.heap.size≤x):Since w lo hi g b g':=
 ⟨h.1,⟨k.os.trans h.2.os,k.tape.trans h.2.tape,k.output.trans h.2.output,Nat.le_trans h.2.size k.size,fun i hi' hn=>(k.block i (Nat.lt_of_lt_of_le hi' h.2.size) (by omega)).trans (h.2.block i hi' hn)⟩⟩
section
variable {r:Pl.Rg} {xs:List Int} {u:Value} {st ha:Bool}
theorem cor_size (hl:xs.length=512):(cor r xs u st ha).size=529:=by
 have:(bkR r).size=14:=rfl
 simp [cor,this,cellsOf_size,hl]
theorem cor_lo {i:Nat} (h:i<14):(cor r xs u st ha)[i]? = (bkR r)[i]? := Array.getElem?_append_left h
theorem cor_hi (i:Nat):(cor r xs u st ha)[14+i]? = (cellsOf xs++#[u,.bool st,.bool ha])[i]? := by
 have:=Array.getElem?_append_right (xs:=bkR r) (ys:=cellsOf xs++#[u,.bool st,.bool ha]) (i:=14+i) (Nat.le_add_right 14 i)
 rw [show 14+i-(bkR r).size=i from Nat.add_sub_cancel_left 14 i] at this
 exact this
theorem cor_at {i:Nat} (hi:i<xs.length):(cor r xs u st ha)[14+i]? = some (iv (el xs i)):=by
 rw [cor_hi,Array.getElem?_append_left (by rw [cellsOf_size];exact hi)]
 simp [cellsOf,el,hi]
theorem cor_up (hl:xs.length=512) (i:Nat):(cor r xs u st ha)[14+(512+i)]? = (#[u,.bool st,.bool ha]:Array Value)[i]? := by
 rw [cor_hi,Array.getElem?_append_right (by rw [cellsOf_size,hl];omega),cellsOf_size,hl,Nat.add_sub_cancel_left]
theorem cor_log (hl:xs.length=512):(cor r xs u st ha)[526]? = some u:=cor_up hl 0
theorem cor_st (hl:xs.length=512):(cor r xs u st ha)[527]? = some (.bool st):=cor_up hl 1
theorem cor_ha (hl:xs.length=512):(cor r xs u st ha)[528]? = some (.bool ha):=cor_up hl 2
theorem cells_set {i:Nat} (v:Int):(cellsOf xs).setIfInBounds i (iv v)=cellsOf (xs.set i v):=by
 simp [cellsOf,List.map_set]
theorem cor_setB {i:Nat} {z:Int} (hi:i<xs.length):(cor r xs u st ha).setIfInBounds (14+i) (iv z)=cor r (xs.set i z) u st ha:=by
 show (bkR r++_).setIfInBounds ((bkR r).size+i) _=_
 rw [set_right,set_left (by rw [cellsOf_size];exact hi),cells_set]
 rfl
theorem cor_setU (hl:xs.length=512) (u':Value):(cor r xs u st ha).setIfInBounds 526 u'=cor r xs u' st ha:=by
 show (bkR r++_).setIfInBounds ((bkR r).size+512) _=_
 have e:=set_right (A:=cellsOf xs) (B:=#[u,.bool st,.bool ha]) 0 u'
 rw [cellsOf_size,hl] at e
 rw [set_right,show (512:Nat)=512+0 from rfl,e]
 rfl
theorem cor_setS (hl:xs.length=512) (s':Bool):(cor r xs u st ha).setIfInBounds 527 (.bool s')=cor r xs u s' ha:=by
 show (bkR r++_).setIfInBounds ((bkR r).size+513) _=_
 have e:=set_right (A:=cellsOf xs) (B:=#[u,.bool st,.bool ha]) 1 (.bool s')
 rw [cellsOf_size,hl] at e
 rw [set_right,show (513:Nat)=512+1 from rfl,e]
 rfl
theorem cor_setR {r':Pl.Rg} {i:Nat} {v:Value} (hi:i<14) (h:bkR r'=(bkR r).setIfInBounds i v):(cor r xs u st ha).setIfInBounds i v=cor r' xs u st ha:=by
 show (bkR r++_).setIfInBounds i v=_
 rw [set_left hi,←h]
 rfl
end
theorem bk_at {r:Pl.Rg} {k:Nat} (hk:k<4):(bkR r)[k]? = some (iv (el r.xs k))∧(bkR r)[4+k]? = some (iv (el r.ys k)):=by
 have:k=0∨k=1∨k=2∨k=3:=by omega
 rcases this with rfl|rfl|rfl|rfl<;>exact ⟨rfl,rfl⟩
def CBk (w:World) (b g cu:Nat) (c:Pl.Mc) (h:Bool):Prop:=Blk w b (cor c.r c.bx (.slice (some ⟨g,0,none⟩) c.bm cu) c.st h) 89
structure CLg (w:World) (lo b g cu:Nat) (bl:List Int) (bm:Nat):Prop where
 l:w.ownsRow lo 96 5 (.slice (some ⟨g,0,none⟩) bm cu) bm (bl.map (Value.int .i64))
 lo':lo≤b
 ne:b≠g
def CAt (w:World) (lo b g:Nat) (c:Pl.Mc) (h:Bool):Prop:=∃cu:Nat,CBk w b g cu c h∧CLg w lo b g cu c.bl c.bm
section
variable {w w':World} {lo b g cu:Nat} {c:Pl.Mc} {h:Bool} {bl:List Int} {bm:Nat}
theorem CLg.own (o:CLg w lo b g cu bl bm) (k:Kept b (b+1) w w'):CLg w' lo b g cu bl bm:=⟨ownsRow_keptS o.l k (by have:=o.ne;omega),o.lo',o.ne⟩
theorem CLg.any (o:CLg w lo b g cu bl bm) (k:Kept 0 0 w w'):CLg w' lo b g cu bl bm:=⟨ownsRow_keptS o.l k (by omega),o.lo',o.ne⟩
theorem CLg.lt (o:CLg w lo b g cu bl bm):lo≤g∧g<w.heap.size:=o.l.lt g rfl
theorem CAt.lt (a:CAt w lo b g c h):lo≤b∧b<w.heap.size∧lo≤g∧g<w.heap.size∧b≠g:=by
 obtain ⟨cu,hB,hO⟩:=a
 have:=hO.lt
 exact ⟨hO.lo',Blk.lt hB,this.1,this.2,hO.ne⟩
theorem CAt.any (a:CAt w lo b g c h) (k:Kept 0 0 w w'):CAt w' lo b g c h:=by
 obtain ⟨cu,hB,hO⟩:=a
 exact ⟨cu,Blk.kept0 hB k,hO.any k⟩
theorem CAt.alloc (a:CAt w lo b g c h) (o:Obj):CAt (w.alloc o) lo b g c h:=a.any (kept_alloc w o)
theorem CAt.drew (a:CAt w lo b g c h):CAt w.drew lo b g c h:=a.any (kept_drew (Kept.refl _ _ _))
theorem CAt.kept {x y:Nat} (a:CAt w lo b g c h) (k:Kept x y w w') (h1:¬(x≤b∧b<y)) (h2:¬(x≤g∧g<y)):CAt w' lo b g c h:=by
 obtain ⟨cu,hB,hO⟩:=a
 exact ⟨cu,Blk.kept hB k h1,⟨ownsRow_keptS hO.l k h2,hO.lo',hO.ne⟩⟩
theorem CAt.reg {r':Pl.Rg} (a:CAt w lo b g c h) {i:Nat} {v:Value} (hi:i<14) (e:bkR r'=(bkR c.r).setIfInBounds i v):CAt (w.setCell ⟨b,i,none⟩ v) lo b g (c.setR r') h:=by
 obtain ⟨cu,hB,hO⟩:=a
 refine ⟨cu,?_,hO.own (kept_one w b i v)⟩
 have:=Blk.set hB i v
 rw [cor_setR hi e] at this
 exact this
theorem CAt.setY (a:CAt w lo b g c h) (l4:c.r.ys.length=4) {k:Nat} (hk:k<4) (v:Int):CAt (w.setCell ⟨b,4+k,none⟩ (iv v)) lo b g (c.setA k v) h:=a.reg (r':={c.r with ys:=c.r.ys.set k v}) (by omega) (bkY l4 hk v)
theorem CAt.setP (a:CAt w lo b g c h) (v:Int):CAt (w.setCell ⟨b,9,none⟩ (iv v)) lo b g (c.setP v) h:=a.reg (r':={c.r with p:=v}) (by omega) rfl
theorem CAt.setF (a:CAt w lo b g c h) (v:Int):CAt (w.setCell ⟨b,10,none⟩ (iv v)) lo b g (c.setF v) h:=a.reg (r':={c.r with f:=v}) (by omega) rfl
theorem CAt.setS (a:CAt w lo b g c h) (l:c.bx.length=512) (v:Bool):CAt (w.setCell ⟨b,527,none⟩ (.bool v)) lo b g {c with st:=v} h:=by
 obtain ⟨cu,hB,hO⟩:=a
 refine ⟨cu,?_,hO.own (kept_one w b 527 (.bool v))⟩
 have:=Blk.set hB 527 (.bool v)
 rw [cor_setS l] at this
 exact this
theorem CAt.cX (a:CAt w lo b g c h) {k:Nat} (hk:k<4):w.cell? ⟨b,k,none⟩=some (iv (el c.r.xs k)):=by
 obtain ⟨cu,hB,hO⟩:=a
 exact Blk.cell hB ((cor_lo (by omega)).trans (bk_at hk).1)
theorem CAt.cY (a:CAt w lo b g c h) {k:Nat} (hk:k<4):w.cell? ⟨b,4+k,none⟩=some (iv (el c.r.ys k)):=by
 obtain ⟨cu,hB,hO⟩:=a
 exact Blk.cell hB ((cor_lo (by omega)).trans (bk_at hk).2)
theorem CAt.cR (a:CAt w lo b g c h) {i:Nat} {v:Value} (hi:i<14) (e:(bkR c.r)[i]? = some v):w.cell? ⟨b,i,none⟩=some v:=by
 obtain ⟨cu,hB,hO⟩:=a
 exact Blk.cell hB ((cor_lo hi).trans e)
theorem CAt.cO (a:CAt w lo b g c h):w.cell? ⟨b,8,none⟩=some (iv c.r.o):=a.cR (by omega) rfl
theorem CAt.cP (a:CAt w lo b g c h):w.cell? ⟨b,9,none⟩=some (iv c.r.p):=a.cR (by omega) rfl
theorem CAt.cF (a:CAt w lo b g c h):w.cell? ⟨b,10,none⟩=some (iv c.r.f):=a.cR (by omega) rfl
theorem CAt.cM (a:CAt w lo b g c h):w.cell? ⟨b,11,none⟩=some (iv c.r.m):=a.cR (by omega) rfl
theorem CAt.cS (a:CAt w lo b g c h):w.cell? ⟨b,12,none⟩=some (.bool c.r.s):=a.cR (by omega) rfl
theorem CAt.cT (a:CAt w lo b g c h):w.cell? ⟨b,13,none⟩=some (.bool c.r.t):=a.cR (by omega) rfl
theorem CAt.cSt (a:CAt w lo b g c h) (l:c.bx.length=512):w.cell? ⟨b,527,none⟩=some (.bool c.st):=by
 obtain ⟨cu,hB,hO⟩:=a
 exact Blk.cell hB (cor_st l)
theorem CAt.cH (a:CAt w lo b g c h) (l:c.bx.length=512):w.cell? ⟨b,528,none⟩=some (.bool h):=by
 obtain ⟨cu,hB,hO⟩:=a
 exact Blk.cell hB (cor_ha l)
theorem CAt.fz (a:CAt w lo b g c h) (i:Nat):w.frozen? ⟨b,i,none⟩=false:=by
 obtain ⟨cu,hB,hO⟩:=a
 exact Blk.frozen hB i
end
theorem isAddress (a:Int) (w:World):Calls prog 107 #[iv a] w fun e w'=>e=.returned (.bool (Pl.addr a))∧w'=w:=by
 by_cases h0:0≤a
 all_goals
  by_cases h1:a≤65535
  all_goals
   go_enter func107,ntmps107
   go_wp2
   go_ret
   exact ⟨rB (by simp [Pl.addr,h0,h1]<;>omega),rfl⟩
theorem isAccessKind (a:Int) (w:World):Calls prog 106 #[iv a] w fun e w'=>e=.returned (.bool (Pl.accKind a))∧w'=w:=by
 by_cases h0:1≤a
 all_goals
  by_cases h1:a≤3
  all_goals
   go_enter func106,ntmps106
   go_wp2
   go_ret
   exact ⟨rB (by simp [Pl.accKind,h0,h1]<;>omega),rfl⟩
theorem isOdd (a:Int) (w:World) (h0:0≤a) (h1:a≤65535):Calls prog 108 #[iv a] w fun e w'=>e=.returned (.bool (decide (a%2=1)))∧w'=w:=by
 go_enter func108,ntmps108
 go_wp2
 go_ret
 refine ⟨rB ?_,rfl⟩
 rw [Bool.eq_iff_iff]
 simp
 omega
theorem partOf (a:Int) (w:World):Calls prog 109 #[iv a] w fun e w'=>e=.returned (iv (Pl.kind a))∧w'=w:=by
 by_cases h1:512≤a
 ·have E:Hid (Pl.kind a=1):=hide (by simp [Pl.kind,h1])
  go_enter func109,ntmps109
  go_wp2
  go_ret
  exact ⟨rI E.out.symm,rfl⟩
 ·by_cases h2:496≤a
  ·have E:Hid (Pl.kind a=0):=hide (by unfold Pl.kind;rw [if_neg (by omega),if_neg (by omega)])
   go_enter func109,ntmps109
   go_wp2
   go_ret
   exact ⟨rI E.out.symm,rfl⟩
  ·by_cases h3:448≤a
   ·have E:Hid (Pl.kind a=1):=hide (by unfold Pl.kind;rw [if_pos (by omega)])
    go_enter func109,ntmps109
    go_wp2
    go_ret
    exact ⟨rI E.out.symm,rfl⟩
   ·by_cases h4:384≤a
    ·have E:Hid (Pl.kind a=3):=hide (by unfold Pl.kind;rw [if_neg (by omega),if_pos (by omega)])
     go_enter func109,ntmps109
     go_wp2
     go_ret
     exact ⟨rI E.out.symm,rfl⟩
    ·have E:Hid (Pl.kind a=0):=hide (by unfold Pl.kind;rw [if_neg (by omega),if_neg (by omega)])
     go_enter func109,ntmps109
     go_wp2
     go_ret
     exact ⟨rI E.out.symm,rfl⟩
namespace Pl
def isAcc (k s a v c:Int):Bool:=okv s v&&(accKind k&&(addr a&&(decide (0≤c)&&decide (c≤3))))
theorem accOk_isAcc (k s a v c:Int):accOk k s a v c=(isAcc k s a v c && !((k==3)&&(c==0))):=by
 unfold accOk isAcc
 rw [Bool.eq_iff_iff]
 simp only [Bool.and_eq_true,Bool.or_eq_true,Bool.not_eq_true',decide_eq_true_eq,bne_iff_ne,ne_eq,Bool.and_eq_false_iff,beq_eq_false_iff_ne]
 constructor
 ·rintro ⟨a1,a2,a3,a4,a5⟩;exact ⟨⟨a2,a1,a3,a4⟩,a5⟩
 ·rintro ⟨⟨a2,a1,a3,a4⟩,a5⟩;exact ⟨a1,a2,a3,a4,a5⟩
end Pl
theorem isAccess (k s a v c:Int) (w:World) (lo : -9223372036854775808≤v) (hi:v≤9223372036854775807):Calls prog 97 #[.agg #[iv k,iv s,iv a,iv v,iv c]] w fun e w'=>e=.returned (.bool (Pl.isAcc k s a v c))∧∃o,w'=w.alloc o:=by
 cases h1:Pl.okv s v
 ·go_enter func97,ntmps97
  go_wp2_with (first|(go_at_call 80;refine (signedOf _ _ _ lo hi).mono ?_;rintro e w' ⟨rfl,rfl⟩;rw [h1])|(go_at_call 106;refine (isAccessKind _ _).mono ?_;rintro e w' ⟨rfl,rfl⟩)|(go_at_call 107;refine (isAddress _ _).mono ?_;rintro e w' ⟨rfl,rfl⟩))
  go_ret
  exact ⟨rB (by unfold Pl.isAcc;rw [h1];rfl),_,rfl⟩
 ·cases h2:Pl.accKind k
  ·go_enter func97,ntmps97
   go_wp2_with (first|(go_at_call 80;refine (signedOf _ _ _ lo hi).mono ?_;rintro e w' ⟨rfl,rfl⟩;rw [h1])|(go_at_call 106;refine (isAccessKind _ _).mono ?_;rintro e w' ⟨rfl,rfl⟩;rw [h2])|(go_at_call 107;refine (isAddress _ _).mono ?_;rintro e w' ⟨rfl,rfl⟩))
   go_ret
   exact ⟨rB (by unfold Pl.isAcc;rw [h1,h2];rfl),_,rfl⟩
  ·cases h3:Pl.addr a
   ·go_enter func97,ntmps97
    go_wp2_with (first|(go_at_call 80;refine (signedOf _ _ _ lo hi).mono ?_;rintro e w' ⟨rfl,rfl⟩;rw [h1])|(go_at_call 106;refine (isAccessKind _ _).mono ?_;rintro e w' ⟨rfl,rfl⟩;rw [h2])|(go_at_call 107;refine (isAddress _ _).mono ?_;rintro e w' ⟨rfl,rfl⟩;rw [h3]))
    go_ret
    exact ⟨rB (by unfold Pl.isAcc;rw [h1,h2,h3];rfl),_,rfl⟩
   ·cases h4:decide (0≤c)
    all_goals
     cases h5:decide (c≤3)
     all_goals
      go_enter func97,ntmps97
      go_wp2_with (first|(go_at_call 80;refine (signedOf _ _ _ lo hi).mono ?_;rintro e w' ⟨rfl,rfl⟩;rw [h1])|(go_at_call 106;refine (isAccessKind _ _).mono ?_;rintro e w' ⟨rfl,rfl⟩;rw [h2])|(go_at_call 107;refine (isAddress _ _).mono ?_;rintro e w' ⟨rfl,rfl⟩;rw [h3]))
      go_ret
      exact ⟨rB (by unfold Pl.isAcc;rw [h1,h2,h3,h4,h5];rfl),_,rfl⟩
theorem isLogged (k s a v c:Int) (w:World) (lo : -9223372036854775808≤v) (hi:v≤9223372036854775807):Calls prog 79 #[.agg #[iv k,iv s,iv a,iv v,iv c]] w fun e w'=>e=.returned (.bool (Pl.accOk k s a v c))∧∃o p,w'=(w.alloc o).alloc p:=by
 cases h1:Pl.isAcc k s a v c
 ·go_enter func79,ntmps79
  go_wp2_with (go_at_call 97;refine (isAccess _ _ _ _ _ _ lo hi).mono ?_;rintro e w' ⟨rfl,o,rfl⟩;rw [h1])
  go_ret
  exact ⟨rB (by rw [Pl.accOk_isAcc,h1];rfl),_,_,rfl⟩
 ·cases h2:(k==3)
  ·go_enter func79,ntmps79
   go_wp2_with (go_at_call 97;refine (isAccess _ _ _ _ _ _ lo hi).mono ?_;rintro e w' ⟨rfl,o,rfl⟩;rw [h1])
   go_ret
   exact ⟨rB (by rw [Pl.accOk_isAcc,h1,h2];rfl),_,_,rfl⟩
  ·cases h3:(c==0)
   all_goals
    go_enter func79,ntmps79
    go_wp2_with (go_at_call 97;refine (isAccess _ _ _ _ _ _ lo hi).mono ?_;rintro e w' ⟨rfl,o,rfl⟩;rw [h1])
    go_ret
    exact ⟨rB (by rw [Pl.accOk_isAcc,h1,h2,h3];rfl),_,_,rfl⟩
theorem okv1 (v:Int):Pl.okv 1 v=Pl.byteOk v:=by
 unfold Pl.okv Pl.byteOk Pl.top
 rw [Bool.eq_iff_iff];simp;omega
theorem isByte (v:Int) (w:World) (lo : -9223372036854775808≤v) (hi:v≤9223372036854775807) :
  Calls prog 96 #[iv v] w fun e w'=>e=.returned (.bool (Pl.byteOk v))∧w'=w:=by
 go_enter func96,ntmps96
 go_wp2_with (go_at_call 80;refine (signedOf _ _ _ lo hi).mono ?_;rintro e w' ⟨rfl,hw⟩;have hw2:=hw.symm;clear hw;subst hw2;rw [okv1])
 go_ret
 exact ⟨rfl,rfl⟩
theorem areBytes (w:World) (a:Option Addr) (ca:Nat) (xs:List Int) (ha:Came w a xs) (lx:xs.length≤2000000) :
  Calls prog 78 #[.slice a xs.length ca] w fun e w'=>e=.returned (.bool (Pl.bytesOk xs))∧w'=w:=by
 have HA:=hide ha
 clear ha
 go_enter func78,ntmps78
 go_wp2
 go_loop [4,7] (fun _ j=>∃k:Nat,k≤xs.length∧j=iv k∧∀i,i<k→Pl.byteOk (el xs i)=true) (fun _ j=>xs.length-(intOf j).toNat)
 case atStart=>exact ⟨0,Nat.zero_le _,rfl,fun i hi=>absurd hi (Nat.not_lt_zero i)⟩
 case round=>
  obtain ⟨k,hk,rfl,heq⟩:=hrel
  have HE:=hide heq
  clear heq
  by_cases hlt:k<xs.length
  ·obtain ⟨g1,o1,rfl,hc1⟩:=HA.out.1 k hlt
   obtain ⟨lo,hi⟩:=HA.out.2 k hlt
   rw [show xs[k]?.getD 0=el xs k from rfl] at hc1 lo hi
   cases hb:Pl.byteOk (el xs k)
   ·go_wp2_with (go_at_call 96;refine (isByte _ _ lo hi).mono ?_;rintro e w' ⟨rfl,rfl⟩;rw [hb])
    go_ret
    exact ⟨rB (Pl.bytesOk_no hlt hb).symm,rfl⟩
   ·go_wp2_with (go_at_call 96;refine (isByte _ _ lo hi).mono ?_;rintro e w' ⟨rfl,rfl⟩;rw [hb])
    go_round
    case rel=>exact ⟨k+1,by omega,by go_num,snoc_all HE.out hb⟩
    case measure=>simp [intOf];omega
  ·go_wp2
   go_ret
   exact ⟨rB (Pl.bytesOk_of (fun i hi=>HE.out i (by omega))).symm,rfl⟩
theorem Wide.at5 {ys:List Int} (h:Wide ys) {m k:Nat} (hl:ys.length=5*m) (hk:k<m) : -9223372036854775808≤el ys (k*5+3)∧el ys (k*5+3)≤9223372036854775807:=h (k*5+3) (by omega)
theorem goodBus (w:World) (a b:Option Addr) (ca cb m:Nat) (xs ys:List Int) (ha:Came w a xs) (hb:Came w b ys) (lx:xs.length≤2000000) (ly:ys.length=5*m) (bm:m≤2000000) :
  Calls prog 47 #[.agg #[.slice a xs.length ca,.slice b m cb]] w fun e w'=>e=.returned (.bool (Pl.goodBus xs ys m))∧Kept 0 0 w w':=by
 have HA:=hide ha
 have HB:=hide hb
 have HY:=hide ly
 have HK0:=hide (kept_alloc w (.cells #[.slice a xs.length ca,.slice b m cb] 36))
 clear ha hb ly
 cases h1:((xs.length:Int) != 512)
 ·have hl5:xs.length=512:=by simp at h1;omega
  have G:Hid (Pl.goodBus xs ys m=(Pl.accsOk ys m&&(Pl.bytesOk xs&&decide (m≤400)))):=hide (by
   unfold Pl.goodBus
   rw [show decide (xs.length=512)=true from by simp [hl5],Bool.true_and])
  clear hl5
  cases h2:Pl.bytesOk xs
  ·go_enter func47,ntmps47
   go_wp2_with (go_at_call 78;refine (areBytes _ a ca xs (HA.out.keptS HK0.out) lx).mono ?_;rintro e w' ⟨rfl,rfl⟩;rw [h2])
   go_ret
   exact ⟨rB (by rw [G.out,h2,Bool.false_and,Bool.and_false]),HK0.out⟩
  ·cases h3:decide ((400:Int)<(m:Int))
   ·go_enter func47,ntmps47
    go_wp2_with (first|(go_at_call 78;refine (areBytes _ a ca xs (HA.out.keptS HK0.out) lx).mono ?_;rintro e w' ⟨rfl,rfl⟩;rw [h2])|fail)
    obtain ⟨W,hW⟩:∃W:World,W=w.alloc (.cells #[.slice a xs.length ca,.slice b m cb] 36):=⟨_,rfl⟩
    rw [←hW] at HK0 ⊢
    clear hW
    go_loopw [4,24] (fun _ j wr=>∃k:Nat,k≤m∧j=iv k∧(∀i,i<k→Pl.accAt ys i=true)∧Kept 0 0 W wr) (fun _ j _=>m-(intOf j).toNat)
    case atStart=>exact ⟨0,Nat.zero_le _,rfl,fun i hi=>absurd hi (Nat.not_lt_zero i),Kept.refl _ _ _⟩
    case round=>
     obtain ⟨k,hk,rfl,heq,hkept⟩:=hrel
     have HE:=hide heq
     have HK:=hide hkept
     clear heq hkept
     by_cases hlt:k<m
     ·obtain ⟨lo,hi⟩:=HB.out.2.at5 HY.out hlt
      obtain ⟨g1,o1,rfl,p0,p1,p2,p3,p4⟩:=((HB.out.keptS (HK0.out.trans HK.out)).1).five HY.out hlt
      cases hb:Pl.accAt ys k
      ·have hb2:Pl.accOk (el ys (k*5)) (el ys (k*5+1)) (el ys (k*5+2)) (el ys (k*5+3)) (el ys (k*5+4))=false:=hb
       clear hb
       go_wp2_with (go_at_call 79;refine (isLogged _ _ _ _ _ _ lo hi).mono ?_;rintro e w' ⟨rfl,o,p,rfl⟩;rw [hb2])
       go_ret
       exact ⟨rB (by unfold Pl.goodBus;rw [Pl.accsOk_no hlt hb2];rfl),HK0.out.trans (kept_new (kept_new (kept_new HK.out _) _) _)⟩
      ·have hb2:Pl.accOk (el ys (k*5)) (el ys (k*5+1)) (el ys (k*5+2)) (el ys (k*5+3)) (el ys (k*5+4))=true:=hb
       clear hb
       go_wp2_with (go_at_call 79;refine (isLogged _ _ _ _ _ _ lo hi).mono ?_;rintro e w' ⟨rfl,o,p,rfl⟩;rw [hb2])
       go_roundw
       case rel=>exact ⟨k+1,by omega,by go_num,snoc_all HE.out hb2,kept_new (kept_new (kept_new HK.out _) _) _⟩
       case measure=>simp [intOf];omega
     ·have HA1:Hid (Pl.accsOk ys m=true):=hide (Pl.accsOk_of (fun i hi=>HE.out i (by omega)))
      go_wp2_with fail
      go_ret
      refine ⟨rB ?_,HK0.out.trans HK.out⟩
      rw [G.out,HA1.out,h2]
      simp at h3
      simp;omega
   ·go_enter func47,ntmps47
    go_wp2_with (go_at_call 78;refine (areBytes _ a ca xs (HA.out.keptS HK0.out) lx).mono ?_;rintro e w' ⟨rfl,rfl⟩;rw [h2])
    go_ret
    refine ⟨rB ?_,HK0.out⟩
    rw [G.out]
    simp at h3
    rw [show decide (m≤400)=false from by simp;omega]
    simp
 ·have hl5:Hid (¬xs.length=512):=hide (by simp at h1;omega)
  go_enter func47,ntmps47
  go_wp2_with (go_at_call 78;fail)
  go_ret
  refine ⟨rB ?_,HK0.out⟩
  unfold Pl.goodBus
  rw [show decide (xs.length=512)=false from by simp [hl5.out]]
  simp
def zeros:List Int:=List.replicate 512 0
theorem zeros_len:zeros.length=512:=List.length_replicate ..
theorem Tryz.infoMem:(prog.info? 84).map (fun i=>(i.zero,i.size))=some (some (.agg (cellsOf zeros)),512):=by kernel_rfl
theorem Tryz.memZero:∀w,(zeroValue 84).run prog w=.ok (.agg (cellsOf zeros)) w:=(zero_of_info Tryz.infoMem).1
theorem Tryz.memSize:(prog.info? 84).map (·.size)=some 512:=(zero_of_info Tryz.infoMem).2
theorem memoryOf (w : World) (a b : Option Addr) (ca cb m : Nat) (xs : List Int) (ha : IRow w a xs) (lx : xs.length = 512) :
    Calls prog 81 #[.agg #[.slice a xs.length ca, .slice b m cb]] w fun e w' => e = .returned (.agg (cellsOf xs)) ∧ Kept 0 0 w w' := by
  obtain ⟨ga, oa, rfl, _⟩ := ha 0 (by omega)
  have HA := hide ha
  have HX := hide lx
  clear ha lx
  have mz := Tryz.memZero
  have HS : Hid ((prog.info? 3).map (·.size) = some 1) := hide (by kernel_rfl)
  go_enter func81, ntmps81
  go_wp2_with fail
  have K := hide (kept_new (kept_new (kept_alloc w (.cells #[.slice (some ⟨ga, oa, none⟩) xs.length ca, .slice b m cb] 36)) (.cells (cellsOf zeros) 84)) (.cells (cellsOf zeros) 84))
  have B0 := (((Blk.new w #[.slice (some ⟨ga, oa, none⟩) xs.length ca, .slice b m cb] 36).alloc (.cells (cellsOf zeros) 84)).alloc (.cells (cellsOf zeros) 84))
  have B1 := ((Blk.new (w.alloc (.cells #[.slice (some ⟨ga, oa, none⟩) xs.length ca, .slice b m cb] 36)) (cellsOf zeros) 84).alloc (.cells (cellsOf zeros) 84))
  have B2 := Blk.new ((w.alloc (.cells #[.slice (some ⟨ga, oa, none⟩) xs.length ca, .slice b m cb] 36)).alloc (.cells (cellsOf zeros) 84)) (cellsOf zeros) 84
  simp only [World.size_alloc] at B1 B2
  obtain ⟨W, hW⟩ : ∃ W : World, W = (((w.alloc (.cells #[.slice (some ⟨ga, oa, none⟩) xs.length ca, .slice b m cb] 36)).alloc (.cells (cellsOf zeros) 84)).alloc (.cells (cellsOf zeros) 84)) := ⟨_, rfl⟩
  rw [← hW] at K B0 B1 B2 ⊢
  clear hW
  have p0 := B0.cell (i := 0) rfl
  have H1 := hide B1
  have H2 := hide B2
  clear B0 B1 B2
  have HZ : Hid ((prog.info? 84).map (·.size) = some (cellsOf xs).size) := hide (by rw [cellsOf_size, HX.out]; exact Tryz.memSize)
  have HZ2 : Hid ((cellsOf zeros).size = (cellsOf xs).size) := hide (by rw [cellsOf_size, cellsOf_size, HX.out, zeros_len])
  have HN : Hid ((xs.map (Value.int .i64)).length = Nat.min xs.length 512) := hide (by rw [HX.out]; simp [HX.out])
  have HF : Hid (0 + (xs.map (Value.int .i64)).length ≤ (zeros.map (Value.int .i64)).length) := hide (by simp [HX.out, zeros_len])
  go_region_law (refine step_copy_splice rfl (.tmp 4) (.tmp 6) 22 22 rfl 3 underlying22 HS.out _ _ _ _ _ _ rfl rfl (w.heap.size + 1 + 1) 0 (zeros.map (Value.int .i64)) 84 ?hg (xs.map (Value.int .i64)) HN.out ?hpos HF.out news_one (w.heap.size + 1 + 1) W ?hb (Nat.le_refl _) ?_
                 (case hg => exact H2.out)
                 (case hb => exact (Below.refl _ W).drew)
                 (case hpos => intro _; exact ⟨rfl, _, rfl, news_of (HA.out.keptS (kept_drew K.out))⟩)
                 intro w4 hg4 hb4)
  all_goals
    have D2 : Hid (Blk w4 (w.heap.size + 1 + 1) (cellsOf xs) 84) := hide (by
      have h := hg4.out
      rw [splice_all (by simp [HX.out, zeros_len])] at h
      exact h)
    have D1 : Hid (Blk w4 (w.heap.size + 1) (cellsOf zeros) 84) := hide ((hb4.block _ (by omega)).trans H1.out)
    have K4 : Hid (Kept 0 0 w w4) := hide (kept_lower K.out hb4 (by omega))
    clear hg4 hb4
    go_wp2_with (first | (refine wpList_load_row rfl 84 (.tmp 3) rfl (w.heap.size + 1 + 1) rfl 84 (cellsOf xs) (0, 0) _ D2.out underlying84 rfl HZ.out ?_) | (refine wpList_store_row rfl 84 (.tmp 2) (.tmp 8) rfl (w.heap.size + 1) (cellsOf xs) rfl rfl 84 (cellsOf zeros) D1.out HZ.out HZ2.out (cellsOf_one xs) ?_))
    refine bodyPost_ret (v := .agg (cellsOf xs)) ?_ rfl ⟨rfl, kept_setRow K4.out _ _ (by omega)⟩
    exact results_cell_row rfl _ _ _ _ _ (0, 0) _ rfl D1.out.setRow underlying84 rfl HZ.out
theorem memList (w:World) (xs:List Int) (lx:xs.length=512) :
  Calls prog 88 #[.agg (cellsOf xs)] w fun e w'=>∃g:Nat,e=.returned (.slice (some ⟨g,0,none⟩) 512 512)∧Blk w' g (cellsOf xs) 3∧w.heap.size≤g∧Kept 0 0 w w':=by
 obtain ⟨i,hi,hz0,hz1,hz2⟩:=info_parts Tryz.info3
 have HS:Hid ((prog.info? 3).map (·.size)=some 1):=hide (by kernel_rfl)
 have HX:=hide lx
 clear lx
 go_enter func88,ntmps88
 go_wp2_with (first|(at_make;refine wpList_make_full _ rfl _ _ 22 rfl w.heap.size 3 i (iv 0) 1 underlying22 hi hz0 hz1 _ _ _ _ 512 rfl rfl rfl rfl ?c1 ?c2 ?c3 ?_))
 case c1=>rw [hz2];decide
 case c2=>unfold maxLen;decide
 case c3=>simp
 intro w1 hown hg
 have K1:=hide ((kept_alloc w (.cells (cellsOf xs) 84)).trans (kept_grown hg))
 have B0:=hide ((Blk.new w (cellsOf xs) 84).kept0 (kept_grown hg))
 have B1:Hid (Blk w1 (w.heap.size+1) (cellsOf zeros) 3):=hide (by
  have h:=blk_of_row hown
  have e:(madeCells #[Value.int .i64 0] 512).toList=zeros.map (Value.int .i64):=by
   rw [toList_madeCells_one,zeros,List.map_replicate]
  rw [e] at h
  exact h)
 clear hown hg
 have HR:Hid (IRow w1 (some ⟨w.heap.size,0,none⟩) xs):=hide (own_of_blk B0.out).row
 have hcopy:(Builtin.copy_ #[22,22] 3 #[.slice (some ⟨w.heap.size+1,0,none⟩) 512 512,.slice (some ⟨w.heap.size,0,none⟩) 512 512]).run prog w1=.ok (iv 512) (w1.setRow (w.heap.size+1) (cellsOf xs)):=by
  have h:=run_copy_row prog w1 22 22 3 3 (w.heap.size+1) 0 512 512 ⟨w.heap.size,0,none⟩ 512 512 (cellsOf zeros) 3 (xs.map (Value.int .i64)) underlying22 HS.out B1.out (by simp [HX.out]) (news_of HR.out) (by simp [HX.out,cellsOf_size,zeros_len]) news_one
  rw [h]
  have e:(List.take 0 (cellsOf zeros).toList++xs.map (Value.int .i64)++List.drop (0+(xs.map (Value.int .i64)).length) (cellsOf zeros).toList)=xs.map (Value.int .i64):=by
   rw [List.drop_eq_nil_of_le (by simp [HX.out,cellsOf_size,zeros_len])];simp
  rw [e,show (xs.map (Value.int .i64)).length=512 by simp [HX.out]]
  rfl
 go_wp2_with fail
 have hl:=B1.out.lt
 refine bodyPost_ret (results_tmp rfl _ _ _) rfl ⟨w.heap.size+1,rfl,B1.out.setRow,by omega,kept_setRow K1.out _ _ (by omega)⟩
theorem memRead (w:World) (xs:List Int) (s n:Nat) (lx:xs.length=512) (hb:Pl.bytesOk xs=true) (s0:1≤s) (s1:s≤2) (hn:n+s≤512) :
  Calls prog 111 #[.agg (cellsOf xs),iv s,iv n] w fun e w'=>e=.returned (iv (Pl.rd xs s n))∧Kept 0 0 w w':=by
 have HX:=hide lx
 have HO:=hide (own_of_blk (Blk.new w (cellsOf xs) 84))
 have HK:=hide (kept_alloc w (.cells (cellsOf xs) 84))
 have HB:=hide hb
 have HS0:=hide s0
 have HN:Hid (n+s≤512):=hide hn
 clear lx hb
 have hsl:∀W:World,(Instr.sliceAt 84 (.pointer (some ⟨w.heap.size,0,none⟩)) (some (iv (n:Int))) (some (iv ((n:Int)+(s:Int)))) none).run prog W=.ok (.slice (some ⟨w.heap.size,n,none⟩) s (512-n)) W:=by
  intro W
  have hlen:prog.arrayLen 84=512:=by kernel_rfl
  have hel:prog.elem 84=3:=by kernel_rfl
  have ht:prog.underlying 84=some (.array (prog.arrayLen 84) (prog.elem 84)):=by kernel_rfl
  obtain ⟨i,hi,hz0,hz1,hz2⟩:=info_parts Tryz.info3
  rw [run_sliceAt_array_lh W 84 _ ht .i64 .i64 n ((n:Int)+(s:Int)) (by omega) (by omega) (by rw [hlen];omega),hlen,hel]
  have e1:((n:Int)).toNat=n:=by omega
  have e2:((n:Int)+(s:Int)).toNat-n=s:=by omega
  have q1:¬512=n:=by omega
  simp only [sizeOf,typeInfo,Sem.run_bind,Sem.run_pure,slicedAt,e1,e2,q1,if_false]
  simp [hi,hz1,Addr.add]
  intro h0;exact h0.symm
 go_enter func111,ntmps111
 go_wp2_with fail
 go_loop [7,9,16] (fun v _ j=>∃k:Nat,k≤s∧j=iv k∧v=iv (Pl.rdK xs n k)) (fun _ _ j=>s-(intOf j).toNat)
 case atStart=>exact ⟨0,Nat.zero_le _,rfl,rfl⟩
 case round=>
  obtain ⟨k,hk,rfl,rfl⟩:=hrel
  by_cases hlt:k<s
  ·obtain ⟨hc,_⟩:=HO.out (n+k) (by rw [HX.out];omega)
   have b0:=Pl.bytesOk_at HB.out n (by rw [HX.out];omega)
   have b1:=Pl.bytesOk_at HB.out (n+k) (by rw [HX.out];omega)
   rw [show xs[n+k]?.getD 0=el xs (n+k) from rfl] at hc
   obtain ⟨b00,b01⟩:=b0
   obtain ⟨b10,b11⟩:=b1
   by_cases hk0:k=0
   ·subst hk0
    have hor:=Pl.word_or (h:=0) (by decide) (by decide) b10 b11
    rw [Int.zero_mul,Int.zero_add] at hor
    rw [Nat.add_zero] at hc hor b10 b11
    rw [show Pl.rdK xs n 0=0 from rfl]
    go_wp2
    go_round
    case rel=>exact ⟨1,by omega,rfl,rfl⟩
    case measure=>simp [intOf];omega
   ·obtain rfl:k=1:=by omega
    have hor:=Pl.word_or b00 b01 b10 b11
    rw [show Pl.rdK xs n 1=el xs n from rfl]
    go_wp2
    go_round
    case rel=>exact ⟨2,by omega,rfl,rfl⟩
    case measure=>simp [intOf];omega
  ·have E:Hid (Pl.rdK xs n k=Pl.rd xs s n):=hide (by
    have:k=1∨k=2:=by omega
    unfold Pl.rdK Pl.rd
    rcases this with rfl|rfl
    ·rw [if_neg (by decide),if_pos rfl,if_pos (by omega)]
    ·rw [if_neg (by decide),if_neg (by decide),if_neg (by omega)])
   go_wp2
   go_ret
   exact ⟨rI E.out,HK.out⟩
end Go.Proofs.YtkkmnnhaailkcaaGreat
