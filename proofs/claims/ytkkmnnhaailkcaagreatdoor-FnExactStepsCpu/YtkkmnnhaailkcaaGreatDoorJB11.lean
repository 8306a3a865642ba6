/- Part 11 of what the last text leans on. -/
import Derived.Test.YtkkmnnhaailkcaaGreatDoorJB10
import Derived.Test.YtkkmnnhaailkcaaGreatDoorJB1
import Derived.Deep.DeepCutAuto
import Derived.Test.YtkkmnnhaailkcaaGreatDoorJB3
import Derived.Deep.RegionHeld3
import Derived.Test.YtkkmnnhaailkcaaGreatDoorJB6
import Derived.Test.YtkkmnnhaailkcaaGreatDoorJB2
import Derived.Test.YtkkmnnhaailkcaaGreatDoorJB9
set_option maxRecDepth 100000
set_option maxHeartbeats 16000000
namespace Go.Proofs.YtkkmnnhaailkcaaGreatDoor
open Go.RowKit Go.Proofs.Tryz
set_option linter.unusedVariables false
theorem V7 (w:World) (a b:Option Addr) (ca cb m:Nat) (xs ys:List Int) (ha:aJ w a xs) (hb:aJ w b ys) (lx:xs.length≤2000000) (ly:ys.length=5*m) (bm:m≤2000000) (x0:0<xs.length) :
  Calls prog 65 #[.agg #[.slice a xs.length ca,.slice b m cb]] w fun e w'=>∃(g1 c1 g2 c2:Nat),e=.returned (.agg #[.slice (some ⟨g1,0,none⟩) xs.length c1,.slice (some ⟨g2,0,none⟩) m c2])∧w'.ownsRow w.heap.size 3 1 (.slice (some ⟨g1,0,none⟩) xs.length c1) xs.length (xs.map (Value.int .i64))∧w'.ownsRow w.heap.size 119 5 (.slice (some ⟨g2,0,none⟩) m c2) m (ys.map (Value.int .i64))∧g1≠g2∧Kept 0 0 w w':=by
 obtain ⟨ga,oa,rfl,_⟩:=ha 0 x0
 by_cases h0:m=0
 ·subst h0
  obtain rfl:ys=[]:=List.eq_nil_of_length_eq_zero (by omega)
  cases b with
  | none=>exact F5 w ga oa ca cb xs ha lx x0
  | some ad=>exact Cc w ga oa ad.block ad.off ad.spot ca cb xs ha lx x0
 ·obtain ⟨gb,ob,rfl,_⟩:=hb 0 (by omega)
  refine (F6 w ga oa gb ob ca cb m xs ys ha hb lx ly bm x0 (by omega)).mono ?_
  rintro e w' ⟨g1,c1,g2,c2,rfl,o1,o2,hl,kk⟩
  exact ⟨g1,c1,g2,c2,rfl,o1,o2,by omega,kk⟩
def jE (c:Pl.Cp) (gd cd ga ca g1 c1 g2 c2:Nat):Array Value:=#[.slice (some ⟨gd,0,none⟩) 4 cd,.slice (some ⟨ga,0,none⟩) 4 ca,iv c.r.o,iv c.r.p,iv c.r.f,iv c.r.m,.bool c.r.s,.bool c.r.t,.slice (some ⟨g1,0,none⟩) 512 c1,.slice (some ⟨g2,0,none⟩) c.bm c2,.bool c.st,.bool c.ha]
structure CO (w:World) (lo mid:Nat) (c:Pl.Cp) (gd ga g1 g2 c2:Nat):Prop where
 d:Own w gd c.r.xs
 a:Own w ga c.r.ys
 b:Own w g1 c.bx
 l:w.ownsRow mid 119 5 (.slice (some ⟨g2,0,none⟩) c.bm c2) c.bm (c.bl.map (Value.int .i64))
 d0:lo≤gd
 d1:gd<mid
 a0:lo≤ga
 a1:ga<mid
 da:gd≠ga
 b0:mid≤g1
 b1:g1<w.heap.size
 bl:g1≠g2
theorem CO.any {w w':World} {lo mid gd ga g1 g2 c2:Nat} {c:Pl.Cp} (h:CO w lo mid c gd ga g1 g2 c2) (k:Kept 0 0 w w'):CO w' lo mid c gd ga g1 g2 c2:=
 ⟨h.d.ai k (by omega),h.a.ai k (by omega),h.b.ai k (by omega),dL h.l k (by omega),h.d0,h.d1,h.a0,h.a1,h.da,h.b0,Nat.lt_of_lt_of_le h.b1 k.size,h.bl⟩
theorem uk {w:World} {lo hi:Nat} {a:Option Addr} {xs:List Int} (h:bg w lo hi a xs) (hx:0<xs.length):∃g,a=some ⟨g,0,none⟩∧lo≤g∧g<hi∧Own w g xs:=by
 rcases h with ⟨_,e⟩|h
 ·rw [e] at hx;exact absurd hx (Nat.lt_irrefl 0)
 ·exact h
theorem own4 (w:World) (r:Pl.Rg) (a b:Option Addr) (ca cb:Nat) (ha:aJ w a r.xs) (hb:aJ w b r.ys) (h4:r.xs.length=4) (h5:r.ys.length=4) :
  Calls prog 64 #[.agg #[.slice a 4 ca,.slice b 4 cb,iv r.o,iv r.p,iv r.f,iv r.m,.bool r.s,.bool r.t]] w fun e w'=>∃gd cd ga cA:Nat,e=.returned (iQ r gd cd ga cA)∧Own w' gd r.xs∧Own w' ga r.ys∧w.heap.size≤gd∧gd<w'.heap.size∧w.heap.size≤ga∧ga<w'.heap.size∧gd≠ga∧Kept 0 0 w w':=by
 have h:=NI w r a b ca cb ha hb (by omega) (by omega)
 rw [h4,h5] at h
 refine h.mono ?_
 rintro e w' ⟨a',b',ca',cb',rfl,⟨s1,s2,s3⟩,k⟩
 obtain ⟨gd,rfl,d0,d1,od⟩:=uk s1 (by omega)
 obtain ⟨ga,rfl,a0,a1,oa⟩:=uk s2 (by omega)
 exact ⟨gd,ca',ga,cb',rfl,od,oa,d0,d1,a0,a1,fun q=>s3 gd rfl (by rw [q];rfl),k⟩
theorem Yy (w:World) (a b:Option Addr) (ca cb m:Nat) (xs ys:List Int) (ha:aJ w a xs) (hb:aJ w b ys) (lx:xs.length=512) (ly:ys.length=5*m) (bm:m≤400) :
  Calls prog 65 #[.agg #[.slice a 512 ca,.slice b m cb]] w fun e w'=>∃g1 c1 g2 c2:Nat,e=.returned (.agg #[.slice (some ⟨g1,0,none⟩) 512 c1,.slice (some ⟨g2,0,none⟩) m c2])∧Own w' g1 xs∧w'.ownsRow w.heap.size 119 5 (.slice (some ⟨g2,0,none⟩) m c2) m (ys.map (Value.int .i64))∧w.heap.size≤g1∧g1<w'.heap.size∧g1≠g2∧Kept 0 0 w w':=by
 have h:=V7 w a b ca cb m xs ys ha hb (by omega) ly (by omega) (by omega)
 rw [lx] at h
 refine h.mono ?_
 rintro e w' ⟨g1,c1,g2,c2,rfl,o1,o2,hn,k⟩
 have q:=o1.lt g1 rfl
 have e1:=nO (xs:=xs) (by rw [←lx] at o1;exact lx ▸ o1)
 exact ⟨g1,c1,g2,c2,rfl,e1,o2,q.1,q.2,hn,k⟩
theorem VD (a0 a1 a2 a3 a4 a5 a6 a7 a8 a9 a10 a11 v:Value):(#[a0,a1,a2,a3,a4,a5,a6,a7,a8,a9,a10,a11]:Array Value).setIfInBounds 0 v=#[v,a1,a2,a3,a4,a5,a6,a7,a8,a9,a10,a11]:=rfl
theorem VC (a0 a1 a2 a3 a4 a5 a6 a7 a8 a9 a10 a11 v:Value):(#[a0,a1,a2,a3,a4,a5,a6,a7,a8,a9,a10,a11]:Array Value).setIfInBounds 1 v=#[a0,v,a2,a3,a4,a5,a6,a7,a8,a9,a10,a11]:=rfl
theorem VB (a0 a1 a2 a3 a4 a5 a6 a7 a8 a9 a10 a11 v:Value):(#[a0,a1,a2,a3,a4,a5,a6,a7,a8,a9,a10,a11]:Array Value).setIfInBounds 2 v=#[a0,a1,v,a3,a4,a5,a6,a7,a8,a9,a10,a11]:=rfl
theorem Vz (a0 a1 a2 a3 a4 a5 a6 a7 a8 a9 a10 a11 v:Value):(#[a0,a1,a2,a3,a4,a5,a6,a7,a8,a9,a10,a11]:Array Value).setIfInBounds 3 v=#[a0,a1,a2,v,a4,a5,a6,a7,a8,a9,a10,a11]:=rfl
theorem Vy (a0 a1 a2 a3 a4 a5 a6 a7 a8 a9 a10 a11 v:Value):(#[a0,a1,a2,a3,a4,a5,a6,a7,a8,a9,a10,a11]:Array Value).setIfInBounds 4 v=#[a0,a1,a2,a3,v,a5,a6,a7,a8,a9,a10,a11]:=rfl
theorem Vx (a0 a1 a2 a3 a4 a5 a6 a7 a8 a9 a10 a11 v:Value):(#[a0,a1,a2,a3,a4,a5,a6,a7,a8,a9,a10,a11]:Array Value).setIfInBounds 5 v=#[a0,a1,a2,a3,a4,v,a6,a7,a8,a9,a10,a11]:=rfl
theorem Vw (a0 a1 a2 a3 a4 a5 a6 a7 a8 a9 a10 a11 v:Value):(#[a0,a1,a2,a3,a4,a5,a6,a7,a8,a9,a10,a11]:Array Value).setIfInBounds 6 v=#[a0,a1,a2,a3,a4,a5,v,a7,a8,a9,a10,a11]:=rfl
theorem Vu (a0 a1 a2 a3 a4 a5 a6 a7 a8 a9 a10 a11 v:Value):(#[a0,a1,a2,a3,a4,a5,a6,a7,a8,a9,a10,a11]:Array Value).setIfInBounds 7 v=#[a0,a1,a2,a3,a4,a5,a6,v,a8,a9,a10,a11]:=rfl
theorem CO.over {w w':World} {b mid gd ga g1 g2 c2:Nat} {c:Pl.Cp} (h:CO w (b+2) mid c gd ga g1 g2 c2) (k:Kept b (b+2) w w'):CO w' b mid c gd ga g1 g2 c2:=by
 have q:=h.l.lt g2 rfl
 have:=h.d0;have:=h.d1;have:=h.b0;have:=h.a0;have:=h.a1
 exact ⟨h.d.ai k (by omega),h.a.ai k (by omega),h.b.ai k (by omega),dL h.l k (by omega),by omega,h.d1,by omega,h.a1,h.da,h.b0,Nat.lt_of_lt_of_le h.b1 k.size,h.bl⟩
theorem Tj (w:World) (c:Pl.Cp) (a b e q:Option Addr) (ca cb ce cq:Nat) (ha:aJ w a c.r.xs) (hb:aJ w b c.r.ys) (he:aJ w e c.bx) (hq:aJ w q c.bl) (h4:c.r.xs.length=4) (h5:c.r.ys.length=4) (hx:c.bx.length=512) (hl:c.bl.length=5*c.bm) (hm:c.bm≤400) :
  Calls prog 41 #[.agg #[.slice a 4 ca,.slice b 4 cb,iv c.r.o,iv c.r.p,iv c.r.f,iv c.r.m,.bool c.r.s,.bool c.r.t,.slice e 512 ce,.slice q c.bm cq,.bool c.st,.bool c.ha]] w fun r w'=>∃gd cd ga cA g1 c1 g2 c2 mid:Nat,r=.returned (.agg (jE c gd cd ga cA g1 c1 g2 c2))∧CO w' w.heap.size mid c gd ga g1 g2 c2∧Kept 0 0 w w':=by
 have K0:=hide (ah (kept_alloc w (.cells #[.slice a 4 ca,.slice b 4 cb,iv c.r.o,iv c.r.p,iv c.r.f,iv c.r.m,.bool c.r.s,.bool c.r.t,.slice e 512 ce,.slice q c.bm cq,.bool c.st,.bool c.ha] 36)) (.cells cpZ 36))
 have BA:=(Blk.new w #[.slice a 4 ca,.slice b 4 cb,iv c.r.o,iv c.r.p,iv c.r.f,iv c.r.m,.bool c.r.s,.bool c.r.t,.slice e 512 ce,.slice q c.bm cq,.bool c.st,.bool c.ha] 36).alloc (.cells cpZ 36)
 have BO:=Blk.new (w.alloc (.cells #[.slice a 4 ca,.slice b 4 cb,iv c.r.o,iv c.r.p,iv c.r.f,iv c.r.m,.bool c.r.s,.bool c.r.t,.slice e 512 ce,.slice q c.bm cq,.bool c.st,.bool c.ha] 36)) cpZ 36
 simp only [World.size_alloc] at BO
 obtain ⟨X,hX⟩:∃X:World,(w.alloc (.cells #[.slice a 4 ca,.slice b 4 cb,iv c.r.o,iv c.r.p,iv c.r.f,iv c.r.m,.bool c.r.s,.bool c.r.t,.slice e 512 ce,.slice q c.bm cq,.bool c.st,.bool c.ha] 36)).alloc (.cells cpZ 36)=X:=⟨_,rfl⟩
 rw [hX] at K0 BA BO
 have HBA:=hide BA
 have HBO:=hide BO
 have HA:=hide (ha.ai K0.o)
 have HB:=hide (hb.ai K0.o)
 have HE:=hide he
 have HQ:=hide hq
 have hxs:=K0.o.size
 clear BA BO ha hb he hq
 have i0:=HBA.o.all
 have if0:=HBA.o.fz
 go_enter func41,ntmps41
 go_wp2_with (go_at_call 64;refine (own4 _ c.r a b ca cb HA.o HB.o h4 h5).mono ?_;unfold iQ;rintro e9 W1 ⟨gd,cd,ga,cA,rfl,od,oa,d0,d1,a0,a1,da,k9⟩;have HD1:=hide od;have HA1:=hide oa;have K1:=hide (K0.o.trans k9);have HI1:=hide (HBA.o.af k9);have HO1:=hide (HBO.o.af k9);clear k9 od oa i0 if0;have i0:=HI1.o.cell (i:=0) rfl;have if0:=HI1.o.frozen 0;have i1:=HI1.o.cell (i:=1) rfl;have if1:=HI1.o.frozen 1;have i2:=HI1.o.cell (i:=2) rfl;have if2:=HI1.o.frozen 2;have i3:=HI1.o.cell (i:=3) rfl;have if3:=HI1.o.frozen 3;have i4:=HI1.o.cell (i:=4) rfl;have if4:=HI1.o.frozen 4;have i5:=HI1.o.cell (i:=5) rfl;have if5:=HI1.o.frozen 5;have i6:=HI1.o.cell (i:=6) rfl;have if6:=HI1.o.frozen 6;have i7:=HI1.o.cell (i:=7) rfl;have if7:=HI1.o.frozen 7;have i8:=HI1.o.cell (i:=8) rfl;have if8:=HI1.o.frozen 8;have i9:=HI1.o.cell (i:=9) rfl;have if9:=HI1.o.frozen 9;have i10:=HI1.o.cell (i:=10) rfl;have if10:=HI1.o.frozen 10;have i11:=HI1.o.cell (i:=11) rfl;have if11:=HI1.o.frozen 11)
 have K8:=MB.jf (w:=W1) (p:=w.heap.size) (.slice (some ⟨gd,0,none⟩) 4 cd) (.slice (some ⟨ga,0,none⟩) 4 cA) (iv c.r.o) (iv c.r.p) (iv c.r.f) (iv c.r.m) (.bool c.r.s) (.bool c.r.t)
 have HI2:Blk ((((((((W1.setCell ⟨w.heap.size,0,none⟩ (.slice (some ⟨gd,0,none⟩) 4 cd)).setCell ⟨w.heap.size,1,none⟩ (.slice (some ⟨ga,0,none⟩) 4 cA)).setCell ⟨w.heap.size,2,none⟩ (iv c.r.o)).setCell ⟨w.heap.size,3,none⟩ (iv c.r.p)).setCell ⟨w.heap.size,4,none⟩ (iv c.r.f)).setCell ⟨w.heap.size,5,none⟩ (iv c.r.m)).setCell ⟨w.heap.size,6,none⟩ (.bool c.r.s)).setCell ⟨w.heap.size,7,none⟩ (.bool c.r.t)) w.heap.size #[.slice (some ⟨gd,0,none⟩) 4 cd,.slice (some ⟨ga,0,none⟩) 4 cA,iv c.r.o,iv c.r.p,iv c.r.f,iv c.r.m,.bool c.r.s,.bool c.r.t,.slice e 512 ce,.slice q c.bm cq,.bool c.st,.bool c.ha] 36:=by
  have z:=(((((((HI1.o.set 0 (.slice (some ⟨gd,0,none⟩) 4 cd)).set 1 (.slice (some ⟨ga,0,none⟩) 4 cA)).set 2 (iv c.r.o)).set 3 (iv c.r.p)).set 4 (iv c.r.f)).set 5 (iv c.r.m)).set 6 (.bool c.r.s)).set 7 (.bool c.r.t)
  rw [VD,VC,VB,Vz,Vy,Vx,Vw,Vu] at z
  exact z
 generalize ((((((((W1.setCell ⟨w.heap.size,0,none⟩ (.slice (some ⟨gd,0,none⟩) 4 cd)).setCell ⟨w.heap.size,1,none⟩ (.slice (some ⟨ga,0,none⟩) 4 cA)).setCell ⟨w.heap.size,2,none⟩ (iv c.r.o)).setCell ⟨w.heap.size,3,none⟩ (iv c.r.p)).setCell ⟨w.heap.size,4,none⟩ (iv c.r.f)).setCell ⟨w.heap.size,5,none⟩ (iv c.r.m)).setCell ⟨w.heap.size,6,none⟩ (.bool c.r.s)).setCell ⟨w.heap.size,7,none⟩ (.bool c.r.t))=Y at K8 HI2 ⊢
 have hX2:X.heap.size=w.heap.size+2:=by rw [←hX];simp
 have ds:=K8.size
 have KY:=hide (bP K1.o K8 (Nat.le_refl _))
 have HDY:=hide (HD1.o.ai K8 (by omega))
 have HAY:=hide (HA1.o.ai K8 (by omega))
 have HOY:=hide (Blk.kept HO1.o K8 (by omega))
 have HIY:=hide HI2
 have HEY:=hide (HE.o.ai KY.o)
 have HQY:=hide (HQ.o.ai KY.o)
 have HX2:=hide hX2
 have hs1:=HO1.o.lt
 clear K8 HI2 hX2 hX i0 if0
 have hdd:=HDY.o.lt (by rw [h4];decide)
 refine (Yy _ e q ce cq c.bm c.bx c.bl HEY.o HQY.o hx hl hm).mono ?_
 rintro e9 W2 ⟨g1,c1,g2,c2,rfl,ob,ol,b0,b1,bn,k9⟩
 have HCO:Hid (CO W2 (w.heap.size+2) Y.heap.size c gd ga g1 g2 c2):=hide ⟨HDY.o.ai k9 (by omega),HAY.o.ai k9 (by omega),ob,ol,by have:=HX2.o;omega,by omega,by have:=HX2.o;omega,by omega,da,b0,b1,bn⟩
 have K2:=hide (KY.o.trans k9)
 have HI3:=hide (HIY.o.af k9)
 have HO3:=hide (HOY.o.af k9)
 have hs3:=HO3.o.lt
 clear ob ol k9
 have i0:=HI3.o.all
 have if0:=HI3.o.fz
 have o0:=HO3.o.all
 have of0:=HO3.o.fz
 go_wp2_with fail
 refine bodyPost_ret (v:=.agg (jE c gd cd ga cA g1 c1 g2 c2)) ?_ rfl ⟨gd,cd,ga,cA,g1,c1,g2,c2,Y.heap.size,rfl,HCO.o.over ?kk,?kw⟩
 case kk=>repeat (first|with_reducible exact Kept.refl _ _ _|refine ag ?_ _ _ _ (.inl (by omega)))
 case kw=>repeat (first|with_reducible exact K2.o|refine ag ?_ _ _ _ (.inr (by omega)))
 rw [aj rfl];go_simp;rfl
theorem tC (w:World) (c:Pl.Cp) (a b e q:Option Addr) (ca cb ce cq:Nat) (ha:aJ w a c.r.xs) (hb:aJ w b c.r.ys) (he:aJ w e c.bx) (hq:aJ w q c.bl) (h4:c.r.xs.length=4) (h5:c.r.ys.length=4) (hx:c.bx.length=512) (hl:c.bl.length=5*c.bm) (hm:c.bm≤400) :
  Calls prog 66 #[.agg #[.slice a 4 ca,.slice b 4 cb,iv c.r.o,iv c.r.p,iv c.r.f,iv c.r.m,.bool c.r.s,.bool c.r.t,.slice e 512 ce,.slice q c.bm cq,.bool c.st,.bool c.ha]] w fun r w'=>∃mid p g2:Nat,r=.returned (.pointer (some ⟨p,0,none⟩))∧MAt w' w.heap.size mid w'.heap.size p g2 (Pl.Mc.ofC c)∧w.heap.size≤p∧Kept 0 0 w w':=by
 have K0:=hide (kept_alloc w (.cells #[.slice a 4 ca,.slice b 4 cb,iv c.r.o,iv c.r.p,iv c.r.f,iv c.r.m,.bool c.r.s,.bool c.r.t,.slice e 512 ce,.slice q c.bm cq,.bool c.st,.bool c.ha] 36))
 have BA:=Blk.new w #[.slice a 4 ca,.slice b 4 cb,iv c.r.o,iv c.r.p,iv c.r.f,iv c.r.m,.bool c.r.s,.bool c.r.t,.slice e 512 ce,.slice q c.bm cq,.bool c.st,.bool c.ha] 36
 obtain ⟨X,hX⟩:∃X:World,w.alloc (.cells #[.slice a 4 ca,.slice b 4 cb,iv c.r.o,iv c.r.p,iv c.r.f,iv c.r.m,.bool c.r.s,.bool c.r.t,.slice e 512 ce,.slice q c.bm cq,.bool c.st,.bool c.ha] 36)=X:=⟨_,rfl⟩
 rw [hX] at K0 BA
 have HBA:=hide BA
 have HA:=hide (ha.ai K0.o)
 have HB:=hide (hb.ai K0.o)
 have HE:=hide (he.ai K0.o)
 have HQ:=hide (hq.ai K0.o)
 have hxs:=K0.o.size
 clear BA ha hb he hq
 have i0:=HBA.o.all
 go_enter func66,ntmps66
 go_wp2_with (go_at_call 41;refine (Tj _ c a b e q ca cb ce cq HA.o HB.o HE.o HQ.o h4 h5 hx hl hm).mono ?_;unfold jE;rintro e9 W ⟨gd,cd,ga,cA,g1,c1,g2,c2,mid,rfl,hc9,k9⟩;have HC:=hide hc9;have HK:=hide (K0.o.trans k9);have HKW:=hide k9;clear hc9 k9)
 go_ret
 have hC1:=(HC.o.any (kept_alloc W (.cells #[.slice (some ⟨gd,0,none⟩) 4 cd,.slice (some ⟨ga,0,none⟩) 4 cA,iv c.r.o,iv c.r.p,iv c.r.f,iv c.r.m,.bool c.r.s,.bool c.r.t,.slice (some ⟨g1,0,none⟩) 512 c1,.slice (some ⟨g2,0,none⟩) c.bm c2,.bool c.st,.bool c.ha] 36)))
 have hBm:=Blk.new (W.alloc (.cells #[.slice (some ⟨gd,0,none⟩) 4 cd,.slice (some ⟨ga,0,none⟩) 4 cA,iv c.r.o,iv c.r.p,iv c.r.f,iv c.r.m,.bool c.r.s,.bool c.r.t,.slice (some ⟨g1,0,none⟩) 512 c1,.slice (some ⟨g2,0,none⟩) c.bm c2,.bool c.st,.bool c.ha] 36)) (jR (Pl.Mc.ofC c) gd cd ga cA g1 c1 g2 c2) 105
 have hC2:=hC1.any (kept_alloc (W.alloc (.cells #[.slice (some ⟨gd,0,none⟩) 4 cd,.slice (some ⟨ga,0,none⟩) 4 cA,iv c.r.o,iv c.r.p,iv c.r.f,iv c.r.m,.bool c.r.s,.bool c.r.t,.slice (some ⟨g1,0,none⟩) 512 c1,.slice (some ⟨g2,0,none⟩) c.bm c2,.bool c.st,.bool c.ha] 36)) (.cells (jR (Pl.Mc.ofC c) gd cd ga cA g1 c1 g2 c2) 105))
 have hg2:=hC1.l.lt g2 rfl
 have hsz:=HKW.o.size
 have hd0:=HC.o.d0
 have hd1:=HC.o.d1
 have hb0:=HC.o.b0
 have hb1:=HC.o.b1
 have ha0:=HC.o.a0
 simp only [World.size_alloc] at hBm hg2
 refine ⟨mid,W.heap.size+1,g2,rfl,⟨gd,cd,ga,cA,g1,c1,c2,hBm,⟨hC2.d,hC2.a,hC2.b,hC2.l,by omega,hC2.d1,by omega,hC2.a1,hC2.da,by omega,hC2.b0,by omega,by omega,by simp,by simp;omega,hC2.bl,Nat.le_refl _⟩⟩,by omega,ah (ah HK.o _) _⟩
theorem JZ (w:World) (b:Nat) (v0 v1 v2 v3 v4 v5 v6 v7 v8 v9 v10 v11:Value):Kept b (b+1) w ((((((((((((w.setCell ⟨b,0,none⟩ v0).setCell ⟨b,1,none⟩ v1).setCell ⟨b,2,none⟩ v2).setCell ⟨b,3,none⟩ v3).setCell ⟨b,4,none⟩ v4).setCell ⟨b,5,none⟩ v5).setCell ⟨b,6,none⟩ v6).setCell ⟨b,7,none⟩ v7).setCell ⟨b,8,none⟩ v8).setCell ⟨b,9,none⟩ v9).setCell ⟨b,10,none⟩ v10).setCell ⟨b,11,none⟩ v11):=((((((((((((ak w b 0 v0).one 1 v1).one 2 v2).one 3 v3).one 4 v4).one 5 v5).one 6 v6).one 7 v7).one 8 v8).one 9 v9).one 10 v10).one 11 v11)
theorem CO.past {w w':World} {lo' lo b mid gd ga g1 g2 c2:Nat} {c:Pl.Cp} (h:CO w lo' mid c gd ga g1 g2 c2) (hl:b+1≤lo') (hb:lo≤b) (k:Kept b (b+1) w w'):CO w' lo mid c gd ga g1 g2 c2:=by
 have q:=h.l.lt g2 rfl
 have:=h.d0;have:=h.d1;have:=h.b0;have:=h.a0;have:=h.a1
 exact ⟨h.d.ai k (by omega),h.a.ai k (by omega),h.b.ai k (by omega),dL h.l k (by omega),by omega,h.d1,by omega,h.a1,h.da,h.b0,Nat.lt_of_lt_of_le h.b1 k.size,h.bl⟩
theorem yN {W:World} {p gd cd ga ca g1 c1 g2 c2:Nat} {c:Pl.Mc} (hB:MB W p gd cd ga ca g1 c1 g2 c2 c):W.cell? ⟨p,0,none⟩=some (.slice (some ⟨gd,0,none⟩) 4 cd)∧W.cell? ⟨p,1,none⟩=some (.slice (some ⟨ga,0,none⟩) 4 ca)∧W.cell? ⟨p,2,none⟩=some (iv c.r.o)∧W.cell? ⟨p,3,none⟩=some (iv c.r.p)∧W.cell? ⟨p,4,none⟩=some (iv c.r.f)∧W.cell? ⟨p,5,none⟩=some (iv c.r.m)∧W.cell? ⟨p,6,none⟩=some (.bool c.r.s)∧W.cell? ⟨p,7,none⟩=some (.bool c.r.t)∧W.cell? ⟨p,8,none⟩=some (.slice (some ⟨g1,0,none⟩) 512 c1)∧W.cell? ⟨p,9,none⟩=some (.slice (some ⟨g2,0,none⟩) c.bm c2)∧W.cell? ⟨p,10,none⟩=some (.bool c.st):=by
 obtain ⟨t0,t1,t2,t3,t4,t5,t6,t7,t8,t9,t10,_⟩:=hB.cells
 exact ⟨t0,t1,t2,t3,t4,t5,t6,t7,t8,t9,t10⟩
theorem zK (w:World) (p gd cd ga ca g1 c1 g2 c2:Nat) (c:Pl.Mc) (h:MB w p gd cd ga ca g1 c1 g2 c2 c) (rd:aJ w (some ⟨gd,0,none⟩) c.r.xs) (ra:aJ w (some ⟨ga,0,none⟩) c.r.ys) (rb:aJ w (some ⟨g1,0,none⟩) c.bx) (rl:aJ w (some ⟨g2,0,none⟩) c.bl) (h4:c.r.xs.length=4) (h5:c.r.ys.length=4) (hx:c.bx.length=512) (hl:c.bl.length=5*c.bm) (hm:c.bm≤400) :
  Calls prog 71 #[.pointer (some ⟨p,0,none⟩)] w fun r w'=>∃gd' cd' ga' cA' g1' c1' g2' c2' mid':Nat,r=.returned (.agg (jE (c.cpu false) gd' cd' ga' cA' g1' c1' g2' c2'))∧CO w' w.heap.size mid' (c.cpu false) gd' ga' g1' g2' c2'∧Kept 0 0 w w':=by
 have K0:=hide (kept_alloc w (.cells cpZ 36))
 have BA:=Blk.new w cpZ 36
 have hpw:p<w.heap.size:=h.lt
 obtain ⟨X,hX⟩:∃X:World,w.alloc (.cells cpZ 36)=X:=⟨_,rfl⟩
 rw [hX] at K0 BA
 have KD:=hide (ae K0.o)
 have HBO:=hide (BA.af (ae (Kept.refl 0 0 X)))
 have HB:=hide (h.any KD.o)
 have S0:=yN HB.o
 have HAd:=hide (rd.ai KD.o)
 have HAa:=hide (ra.ai KD.o)
 have HAb:=hide (rb.ai KD.o)
 have HAl:=hide (rl.ai KD.o)
 clear BA h rd ra rb rl
 obtain ⟨u0,u1,u2,u3,u4,u5,u6,u7,u8,u9,u10⟩:=S0
 have S0:=yN HB.o
 have HNE:Hid (¬(w.heap.size≤p∧p<w.heap.size+1)):=hide (by omega)
 go_enter func71,ntmps71
 go_wp2_with fail
 go_region_held3 (fun w'=>w'.cell? ⟨p,0,none⟩=some (.slice (some ⟨gd,0,none⟩) 4 cd)∧w'.cell? ⟨p,1,none⟩=some (.slice (some ⟨ga,0,none⟩) 4 ca)∧w'.cell? ⟨p,2,none⟩=some (iv c.r.o)∧w'.cell? ⟨p,3,none⟩=some (iv c.r.p)∧w'.cell? ⟨p,4,none⟩=some (iv c.r.f)∧w'.cell? ⟨p,5,none⟩=some (iv c.r.m)∧w'.cell? ⟨p,6,none⟩=some (.bool c.r.s)∧w'.cell? ⟨p,7,none⟩=some (.bool c.r.t)∧w'.cell? ⟨p,8,none⟩=some (.slice (some ⟨g1,0,none⟩) 512 c1)∧w'.cell? ⟨p,9,none⟩=some (.slice (some ⟨g2,0,none⟩) c.bm c2)∧w'.cell? ⟨p,10,none⟩=some (.bool c.st)) (first|with_reducible exact S0|with_reducible exact yN HB2.o|exact yN (Blk.kept HB2.o (JZ _ _ _ _ _ _ _ _ _ _ _ _ _ _) HNE.o)|go_keep) (first|(go_at_call 41;refine (Tj _ (c.cpu false) _ _ _ _ cd ca c1 c2 HAd.o HAa.o HAb.o HAl.o h4 h5 hx hl hm).mono ?_;unfold jE;rintro e9 W ⟨gd',cd',ga',cA',g1',c1',g2',c2',mid',rfl,hc9,k9⟩;have HC:=hide hc9;have HK:=hide (KD.o.trans k9);have HKW:=hide k9;have HB2:=hide (HB.o.any k9);have HBW:=hide (HBO.o.af k9);have hbw:=HBW.o.lt;clear hc9 k9;have o0:=HBW.o.cell (i:=0) rfl;have of0:=HBW.o.frozen 0;have o1:=HBW.o.cell (i:=1) rfl;have of1:=HBW.o.frozen 1;have o2:=HBW.o.cell (i:=2) rfl;have of2:=HBW.o.frozen 2;have o3:=HBW.o.cell (i:=3) rfl;have of3:=HBW.o.frozen 3;have o4:=HBW.o.cell (i:=4) rfl;have of4:=HBW.o.frozen 4;have o5:=HBW.o.cell (i:=5) rfl;have of5:=HBW.o.frozen 5;have o6:=HBW.o.cell (i:=6) rfl;have of6:=HBW.o.frozen 6;have o7:=HBW.o.cell (i:=7) rfl;have of7:=HBW.o.frozen 7;have o8:=HBW.o.cell (i:=8) rfl;have of8:=HBW.o.frozen 8;have o9:=HBW.o.cell (i:=9) rfl;have of9:=HBW.o.frozen 9;have o10:=HBW.o.cell (i:=10) rfl;have of10:=HBW.o.frozen 10;have o11:=HBW.o.cell (i:=11) rfl;have of11:=HBW.o.frozen 11))
 go_wp2_with fail
 have hd0:=HC.o.d0
 have ha0:=HC.o.a0
 have hd1:=HC.o.d1
 have hb0:=HC.o.b0
 have hxs:X.drew.heap.size=w.heap.size+1:=by show X.heap.size=_;rw [←hX];simp
 refine bodyPost_ret (v:=.agg (jE (c.cpu false) gd' cd' ga' cA' g1' c1' g2' c2')) ?_ rfl ⟨gd',cd',ga',cA',g1',c1',g2',c2',mid',rfl,HC.o.past (b:=w.heap.size) (by omega) (Nat.le_refl _) ?kk,?kw⟩
 case kk=>repeat (first|with_reducible exact Kept.refl _ _ _|refine ag ?_ _ _ _ (.inl (by omega)))
 case kw=>repeat (first|with_reducible exact HK.o|refine ag ?_ _ _ _ (.inr (by omega)))
 rw [aj rfl];go_simp;rfl
theorem V5 (w:World) (lo mid hi p g2:Nat) (c:Pl.Mc) (h:MAt w lo mid hi p g2 c) (G:Pl.GM c) :
  Calls prog 71 #[.pointer (some ⟨p,0,none⟩)] w fun r w'=>∃gd cd ga cA g1 c1 g2 c2 mid:Nat,r=.returned (.agg (jE (c.cpu false) gd cd ga cA g1 c1 g2 c2))∧CO w' w.heap.size mid (c.cpu false) gd ga g1 g2 c2∧Kept 0 0 w w':=by
 obtain ⟨gd,cd,ga,ca,g1,c1,c2,hB,hO⟩:=h
 exact zK w p gd cd ga ca g1 c1 g2 c2 c hB hO.d.row hO.a.row hO.b.row (gX hO.l).row G.g.d4 G.g.a4 G.bx G.bl G.bm
theorem Pl.Xj {v:Int} (h:Pl.okv 2 v=true):0≤v∧v≤65535:=by simp [Pl.okv,Pl.top] at h;omega
theorem tJ (w:World) (lo mid hi p g2:Nat) (c:Pl.Mc) (h:MAt w lo mid hi p g2 c) (G:Pl.GM c) :
  Calls prog 67 #[.pointer (some ⟨p,0,none⟩)] w fun e w'=>e=.returned (.tuple #[.agg (mi c.az),iv c.bH])∧∃g3,MAt w' lo mid hi p g3 c.fetch∧Since w lo hi g2 w' g3:=by
 have hl:=h.lo
 have HA0:=hide (Pl.iO (.inr rfl) G.p0 G.p1)
 have HG0:=hide (G.ft {c.f with pc:=c.r.p})
 have HG1:=hide (HG0.o.acc HA0.o)
 have HW:=Pl.Xj (HG0.o.jI HA0.o)
 obtain ⟨hw0,hw1⟩:=HW
 have HG2:=hide (HG1.o.ft {c.fe1.f with wo:=c.feW})
 have pp0:=G.p0
 have pp1:=G.p1
 have ha:=mg (c.r.p+2)
 have HA2:Hid (Pl.gq 3 2 c.feA 0=true):=hide (Pl.iO (.inr rfl) (by unfold Pl.Mc.feA;omega) (by unfold Pl.Mc.feA;omega))
 have KA:=hide (kept_alloc w (.cells (inA 0 0 0 0 0 0 0) 109))
 have BA:=Blk.new w (inA 0 0 0 0 0 0 0) 109
 obtain ⟨X,hX⟩:∃X:World,w.alloc (.cells (inA 0 0 0 0 0 0 0) 109)=X:=⟨_,rfl⟩
 rw [hX] at KA BA
 have HBA:=hide BA
 have h2:=h.any KA.o
 have hbw:=BA.lt
 have hpb:p<w.heap.size:=hl.2.2.2.2.1
 have HHB:Hid (hi≤w.heap.size):=hide hl.2.2.2.2.2.2
 have HGB:Hid (w.heap.size≠g2):=hide (by have:=hl.2.2.2.2.2.1;omega)
 have HPH:Hid ((lo≤p∧p<hi)∨w.heap.size≤p):=hide (by omega)
 clear h BA
 have HM:=hide h2
 obtain ⟨gd,cd,ga,ca,g1,c1,c2,HB,HO⟩:=h2.op
 have t3:=HB.o.k3
 have t12:=HB.o.k12
 have f12:=HB.o.frozen 12
 have HM0:=hide (HM.o.cPc c.r.p)
 have HBO:=hide (HBA.o.other p 12 (iv c.r.p) (by omega))
 have HS0:=hide (((Since.refl w lo hi g2).any KA.o).set p 12 (iv c.r.p) HPH.o)
 clear G HO HB HM
 cases hf1:c.fe1.fine
 ·have E:Hid (c.fetch=c.fe1):=hide (by unfold Pl.Mc.fetch;rw [hf1];rfl)
  have E2:Hid (c.az=Pl.vP):=hide (by unfold Pl.Mc.az;rw [hf1];rfl)
  have E3:Hid (c.bH=0):=hide (by unfold Pl.Mc.bH;rw [hf1];rfl)
  go_enter func67,ntmps67
  go_wp2_with (first|(go_at_call 82;refine (ig _ lo mid hi p g2 c.fe0 3 2 c.r.p 0 HM0.o HG0.o HA0.o).mono ?_;rw [show Pl.Mc.jI c.fe0 3 2 c.r.p 0=c.feW from rfl];rintro e9 W ⟨rfl,g3,hm9,hb9⟩;have HM1:Hid (MAt W lo mid hi p g3 c.fe1):=hide hm9;have HB1:=hide (hb9.blk HBO.o HHB.o HGB.o);have nI:=hide (hb9.ne (by simp;omega) HGB.o);have HS1:=hide (HS0.o.trans hb9);obtain ⟨_,_,_,_,_,_,_,hB9,_⟩:=hm9;have hpw:=hB9.lt;obtain ⟨t0,t1,t2,t3,t4,t5,t6,t7,t8,t9,t10,t11,t12,t13,t14,t15⟩:=hB9.cells;have f14:=hB9.frozen 14;clear hb9 hB9 t0 t1 t2 t3 t4 t5 t6 t7 t8 t9 t10 t11 t12 t13 t15;have y0:=HB1.o.cell (i:=0) rfl;have v0:=HB1.o.frozen 0;have y1:=HB1.o.cell (i:=1) rfl;have v1:=HB1.o.frozen 1;have y2:=HB1.o.cell (i:=2) rfl;have v2:=HB1.o.frozen 2;have y3:=HB1.o.cell (i:=3) rfl;have v3:=HB1.o.frozen 3;have y4:=HB1.o.cell (i:=4) rfl;have v4:=HB1.o.frozen 4;have y5:=HB1.o.cell (i:=5) rfl;have v5:=HB1.o.frozen 5;have y6:=HB1.o.cell (i:=6) rfl;have v6:=HB1.o.frozen 6)|(go_at_call 68;have z9:=nI;refine st (bT _ lo mid hi p g3 _ HM1.o) ?_;rw [hf1]))
  refine bodyPost_ret (v:=.tuple #[.agg (mi c.az),iv c.bH]) ?_ rfl ⟨rfl,g3,?_,?_⟩
  ·rw [results_cell_tmp rfl,E2.o,E3.o];go_simp;rfl
  ·rw [E.o];exact HM1.o.past (xu _ _ _ _ _ _ _ _ _) HHB.o nI.o
  ·exact sU HS1.o (Nat.le_refl _) _ _ _ _ _ _ _
 ·cases hL:(Pl.fH c.feW==2)
  ·have E4:Hid (c.fe3=c.fe2):=hide (by unfold Pl.Mc.fe3;rw [hL];rfl)
   have EN:Hid (c.feN=0):=hide (by unfold Pl.Mc.feN;rw [hL];rfl)
   have hf3:c.fe3.fine=true:=by rw [E4.o];exact hf1
   have EV:=EN
   have MZ:Hid (Pl.dH ⟨(Pl.decode c.feW 0).op,(Pl.decode c.feW 0).z,(Pl.decode c.feW 0).r,(Pl.decode c.feW 0).m,(Pl.decode c.feW 0).k,(Pl.decode c.feW 0).e,(Pl.decode c.feW 0).s⟩=Pl.dH c.feX):=hide (by unfold Pl.Mc.feX;rw [EV.o])
   cases ho:Pl.dH c.feX
   ·have HOK:=hide (MZ.o.trans ho)
    have E:Hid (c.fetch=c.fe4):=hide (by unfold Pl.Mc.fetch;rw [hf1,hf3,ho];rfl)
    have E2:Hid (c.az=Pl.vP):=hide (by unfold Pl.Mc.az;rw [hf1,hf3,ho];rfl)
    have E3:Hid (c.bH=0):=hide (by unfold Pl.Mc.bH;rw [hf1,hf3,ho];rfl)
    go_enter func67,ntmps67
    go_wp2_with (first|(go_at_call 82;refine (ig _ lo mid hi p g2 c.fe0 3 2 c.r.p 0 HM0.o HG0.o HA0.o).mono ?_;rw [show Pl.Mc.jI c.fe0 3 2 c.r.p 0=c.feW from rfl];rintro e9 W ⟨rfl,g3,hm9,hb9⟩;have HM1:Hid (MAt W lo mid hi p g3 c.fe1):=hide hm9;have HB1:=hide (hb9.blk HBO.o HHB.o HGB.o);have nI:=hide (hb9.ne (by simp;omega) HGB.o);have HS1:=hide (HS0.o.trans hb9);obtain ⟨_,_,_,_,_,_,_,hB9,_⟩:=hm9;have hpw:=hB9.lt;obtain ⟨t0,t1,t2,t3,t4,t5,t6,t7,t8,t9,t10,t11,t12,t13,t14,t15⟩:=hB9.cells;have f14:=hB9.frozen 14;clear hb9 hB9 t0 t1 t2 t3 t4 t5 t6 t7 t8 t9 t10 t11 t12 t13 t15;have y0:=HB1.o.cell (i:=0) rfl;have v0:=HB1.o.frozen 0;have y1:=HB1.o.cell (i:=1) rfl;have v1:=HB1.o.frozen 1;have y2:=HB1.o.cell (i:=2) rfl;have v2:=HB1.o.frozen 2;have y3:=HB1.o.cell (i:=3) rfl;have v3:=HB1.o.frozen 3;have y4:=HB1.o.cell (i:=4) rfl;have v4:=HB1.o.frozen 4;have y5:=HB1.o.cell (i:=5) rfl;have v5:=HB1.o.frozen 5;have y6:=HB1.o.cell (i:=6) rfl;have v6:=HB1.o.frozen 6;have HM2:Hid (MAt (W.setCell ⟨p,14,none⟩ (iv c.feW)) lo mid hi p g3 c.fe2):=hide (HM1.o.cWo c.feW);have HB2:=hide (HB1.o.other p 14 (iv c.feW) (by omega));have HS2:=hide (HS1.o.set p 14 (iv c.feW) HPH.o);have hbW:=HB1.o.lt;have HMp:Hid (MAt (W.setCell ⟨p,14,none⟩ (iv c.feW)) lo mid hi p g3 c.fe3):=hide (by rw [E4.o];exact HM2.o);have HBp:=HB2;have HGp:=nI;have HSp:=HS2)|(go_at_call 68;have z9:=nI;refine st (bT _ lo mid hi p g3 _ HM1.o) ?_;rw [hf1])|(go_at_call 100;refine st (kW c.feW _ hw0 hw1) ?_)|(go_at_call 101;have z9:=HGp;refine (nN _ c.feW 0 hw0 hw1).mono ?_;rintro e9 W3 ⟨rfl,hk9⟩;have HK3:=hide hk9;clear hk9)|(go_at_call 102;have z9:=HK3;refine (lL _ (Pl.decode c.feW 0).op (Pl.decode c.feW 0).z (Pl.decode c.feW 0).r (Pl.decode c.feW 0).m (Pl.decode c.feW 0).k (Pl.decode c.feW 0).e (Pl.decode c.feW 0).s).mono ?_;rintro e9 W4 ⟨rfl,hk9⟩;rw [HOK.o];have K4:=hide ((ah HK3.o (.cells #[iv (Pl.decode c.feW 0).op,iv (Pl.decode c.feW 0).z,iv (Pl.decode c.feW 0).r,iv (Pl.decode c.feW 0).m,iv (Pl.decode c.feW 0).k,iv (Pl.decode c.feW 0).e,iv (Pl.decode c.feW 0).s] 109)).trans hk9);have BX4:=hide ((Blk.new W3 #[iv (Pl.decode c.feW 0).op,iv (Pl.decode c.feW 0).z,iv (Pl.decode c.feW 0).r,iv (Pl.decode c.feW 0).m,iv (Pl.decode c.feW 0).k,iv (Pl.decode c.feW 0).e,iv (Pl.decode c.feW 0).s] 109).af hk9);have HM4:=hide (HMp.o.any K4.o);have HB4:=hide (HBp.o.af K4.o);have HS4:=hide (HSp.o.any K4.o);clear hk9;clear y0 y1 y2 y3 y4 y5 y6 v0 v1 v2 v3 v4 v5 v6;have y0:=HB4.o.cell (i:=0) rfl;have v0:=HB4.o.frozen 0;have y1:=HB4.o.cell (i:=1) rfl;have v1:=HB4.o.frozen 1;have y2:=HB4.o.cell (i:=2) rfl;have v2:=HB4.o.frozen 2;have y3:=HB4.o.cell (i:=3) rfl;have v3:=HB4.o.frozen 3;have y4:=HB4.o.cell (i:=4) rfl;have v4:=HB4.o.frozen 4;have y5:=HB4.o.cell (i:=5) rfl;have v5:=HB4.o.frozen 5;have y6:=HB4.o.cell (i:=6) rfl;have v6:=HB4.o.frozen 6;have x0:=BX4.o.all;have hx4:=HM4.o;obtain ⟨_,_,_,_,_,_,_,hB9,_⟩:=hx4;have hpw4:=hB9.lt;have hbw4:=HB4.o.lt;have hxw4:=BX4.o.lt;obtain ⟨t0,t1,t2,t3,t4,t5,t6,t7,t8,t9,t10,t11,_⟩:=hB9.cells;have f11:=hB9.frozen 11;clear hB9 t0 t1 t2 t3 t4 t5 t6 t7 t8 t9 t10))
    refine bodyPost_ret (v:=.tuple #[.agg (mi c.az),iv c.bH]) ?_ rfl ⟨rfl,g3,?_,?_⟩
    ·rw [results_cell_tmp rfl,E2.o,E3.o];go_simp;rfl
    ·rw [E.o];exact (HM4.o.cV 4).past (xu _ _ _ _ _ _ _ _ _) HHB.o HGp.o
    ·exact sU (HS4.o.set p 11 _ HPH.o) (Nat.le_refl _) _ _ _ _ _ _ _
   ·have HOK:=hide (MZ.o.trans ho)
    have E:Hid (c.fetch=c.fe3):=hide (by unfold Pl.Mc.fetch;rw [hf1,hf3,ho];rfl)
    have E2:Hid (c.az=Pl.decode c.feW 0):=hide (by unfold Pl.Mc.az;rw [hf1,hf3,ho];unfold Pl.Mc.feX;rw [EV.o];rfl)
    have E3:Hid (c.bH=Pl.fH c.feW):=hide (by unfold Pl.Mc.bH;rw [hf1,hf3,ho];rfl)
    go_enter func67,ntmps67
    go_wp2_with (first|(go_at_call 82;refine (ig _ lo mid hi p g2 c.fe0 3 2 c.r.p 0 HM0.o HG0.o HA0.o).mono ?_;rw [show Pl.Mc.jI c.fe0 3 2 c.r.p 0=c.feW from rfl];rintro e9 W ⟨rfl,g3,hm9,hb9⟩;have HM1:Hid (MAt W lo mid hi p g3 c.fe1):=hide hm9;have HB1:=hide (hb9.blk HBO.o HHB.o HGB.o);have nI:=hide (hb9.ne (by simp;omega) HGB.o);have HS1:=hide (HS0.o.trans hb9);obtain ⟨_,_,_,_,_,_,_,hB9,_⟩:=hm9;have hpw:=hB9.lt;obtain ⟨t0,t1,t2,t3,t4,t5,t6,t7,t8,t9,t10,t11,t12,t13,t14,t15⟩:=hB9.cells;have f14:=hB9.frozen 14;clear hb9 hB9 t0 t1 t2 t3 t4 t5 t6 t7 t8 t9 t10 t11 t12 t13 t15;have y0:=HB1.o.cell (i:=0) rfl;have v0:=HB1.o.frozen 0;have y1:=HB1.o.cell (i:=1) rfl;have v1:=HB1.o.frozen 1;have y2:=HB1.o.cell (i:=2) rfl;have v2:=HB1.o.frozen 2;have y3:=HB1.o.cell (i:=3) rfl;have v3:=HB1.o.frozen 3;have y4:=HB1.o.cell (i:=4) rfl;have v4:=HB1.o.frozen 4;have y5:=HB1.o.cell (i:=5) rfl;have v5:=HB1.o.frozen 5;have y6:=HB1.o.cell (i:=6) rfl;have v6:=HB1.o.frozen 6;have HM2:Hid (MAt (W.setCell ⟨p,14,none⟩ (iv c.feW)) lo mid hi p g3 c.fe2):=hide (HM1.o.cWo c.feW);have HB2:=hide (HB1.o.other p 14 (iv c.feW) (by omega));have HS2:=hide (HS1.o.set p 14 (iv c.feW) HPH.o);have hbW:=HB1.o.lt;have HMp:Hid (MAt (W.setCell ⟨p,14,none⟩ (iv c.feW)) lo mid hi p g3 c.fe3):=hide (by rw [E4.o];exact HM2.o);have HBp:=HB2;have HGp:=nI;have HSp:=HS2)|(go_at_call 68;have z9:=nI;refine st (bT _ lo mid hi p g3 _ HM1.o) ?_;rw [hf1])|(go_at_call 100;refine st (kW c.feW _ hw0 hw1) ?_)|(go_at_call 101;have z9:=HGp;refine (nN _ c.feW 0 hw0 hw1).mono ?_;rintro e9 W3 ⟨rfl,hk9⟩;have HK3:=hide hk9;clear hk9)|(go_at_call 102;have z9:=HK3;refine (lL _ (Pl.decode c.feW 0).op (Pl.decode c.feW 0).z (Pl.decode c.feW 0).r (Pl.decode c.feW 0).m (Pl.decode c.feW 0).k (Pl.decode c.feW 0).e (Pl.decode c.feW 0).s).mono ?_;rintro e9 W4 ⟨rfl,hk9⟩;rw [HOK.o];have K4:=hide ((ah HK3.o (.cells #[iv (Pl.decode c.feW 0).op,iv (Pl.decode c.feW 0).z,iv (Pl.decode c.feW 0).r,iv (Pl.decode c.feW 0).m,iv (Pl.decode c.feW 0).k,iv (Pl.decode c.feW 0).e,iv (Pl.decode c.feW 0).s] 109)).trans hk9);have BX4:=hide ((Blk.new W3 #[iv (Pl.decode c.feW 0).op,iv (Pl.decode c.feW 0).z,iv (Pl.decode c.feW 0).r,iv (Pl.decode c.feW 0).m,iv (Pl.decode c.feW 0).k,iv (Pl.decode c.feW 0).e,iv (Pl.decode c.feW 0).s] 109).af hk9);have HM4:=hide (HMp.o.any K4.o);have HB4:=hide (HBp.o.af K4.o);have HS4:=hide (HSp.o.any K4.o);clear hk9;clear y0 y1 y2 y3 y4 y5 y6 v0 v1 v2 v3 v4 v5 v6;have y0:=HB4.o.cell (i:=0) rfl;have v0:=HB4.o.frozen 0;have y1:=HB4.o.cell (i:=1) rfl;have v1:=HB4.o.frozen 1;have y2:=HB4.o.cell (i:=2) rfl;have v2:=HB4.o.frozen 2;have y3:=HB4.o.cell (i:=3) rfl;have v3:=HB4.o.frozen 3;have y4:=HB4.o.cell (i:=4) rfl;have v4:=HB4.o.frozen 4;have y5:=HB4.o.cell (i:=5) rfl;have v5:=HB4.o.frozen 5;have y6:=HB4.o.cell (i:=6) rfl;have v6:=HB4.o.frozen 6;have x0:=BX4.o.all;have hx4:=HM4.o;obtain ⟨_,_,_,_,_,_,_,hB9,_⟩:=hx4;have hpw4:=hB9.lt;have hbw4:=HB4.o.lt;have hxw4:=BX4.o.lt;obtain ⟨t0,t1,t2,t3,t4,t5,t6,t7,t8,t9,t10,t11,_⟩:=hB9.cells;have f11:=hB9.frozen 11;clear hB9 t0 t1 t2 t3 t4 t5 t6 t7 t8 t9 t10))
    refine bodyPost_ret (v:=.tuple #[.agg (mi c.az),iv c.bH]) ?_ rfl ⟨rfl,g3,?_,?_⟩
    ·rw [results_cell_tmp rfl,E2.o,E3.o];go_simp;rfl
    ·rw [E.o];exact HM4.o.past (xu _ _ _ _ _ _ _ _ _) HHB.o HGp.o
    ·exact sU HS4.o (Nat.le_refl _) _ _ _ _ _ _ _
  ·have E4:Hid (c.fe3=c.fe2.acc 3 2 c.feA 0):=hide (by unfold Pl.Mc.fe3;rw [hL];rfl)
   have EN:Hid (Pl.Mc.jI c.fe2 3 2 c.feA 0=c.feN):=hide (by unfold Pl.Mc.feN;rw [hL];rfl)
   cases hf2:c.fe3.fine
   ·have E:Hid (c.fetch=c.fe3):=hide (by unfold Pl.Mc.fetch;rw [hf1,hf2];rfl)
    have E2:Hid (c.az=Pl.vP):=hide (by unfold Pl.Mc.az;rw [hf1,hf2];rfl)
    have E3:Hid (c.bH=0):=hide (by unfold Pl.Mc.bH;rw [hf1,hf2];rfl)
    go_enter func67,ntmps67
    go_wp2_with (first|(go_at_call 82;have z9:=HM2;refine (ig _ lo mid hi p g3 c.fe2 3 2 c.feA 0 HM2.o HG2.o HA2.o).mono ?_;rw [show Pl.Mc.jI c.fe2 3 2 c.feA 0=c.feN from EN.o];rintro e9 W5 ⟨rfl,g4,hm9,hb9⟩;have HMp:Hid (MAt W5 lo mid hi p g4 c.fe3):=hide (by rw [E4.o];exact hm9);have HBp:=hide (hb9.blk HB2.o HHB.o nI.o);have HGp:=hide (hb9.ne (by simp;omega) nI.o);have HSp:=hide (HS2.o.trans hb9);clear hm9 hb9;clear y0 y1 y2 y3 y4 y5 y6 v0 v1 v2 v3 v4 v5 v6;have y0:=HBp.o.cell (i:=0) rfl;have v0:=HBp.o.frozen 0;have y1:=HBp.o.cell (i:=1) rfl;have v1:=HBp.o.frozen 1;have y2:=HBp.o.cell (i:=2) rfl;have v2:=HBp.o.frozen 2;have y3:=HBp.o.cell (i:=3) rfl;have v3:=HBp.o.frozen 3;have y4:=HBp.o.cell (i:=4) rfl;have v4:=HBp.o.frozen 4;have y5:=HBp.o.cell (i:=5) rfl;have v5:=HBp.o.frozen 5;have y6:=HBp.o.cell (i:=6) rfl;have v6:=HBp.o.frozen 6)|(go_at_call 68;have z9:=HGp;refine st (bT _ lo mid hi p g4 _ HMp.o) ?_;rw [hf2])|(go_at_call 82;refine (ig _ lo mid hi p g2 c.fe0 3 2 c.r.p 0 HM0.o HG0.o HA0.o).mono ?_;rw [show Pl.Mc.jI c.fe0 3 2 c.r.p 0=c.feW from rfl];rintro e9 W ⟨rfl,g3,hm9,hb9⟩;have HM1:Hid (MAt W lo mid hi p g3 c.fe1):=hide hm9;have HB1:=hide (hb9.blk HBO.o HHB.o HGB.o);have nI:=hide (hb9.ne (by simp;omega) HGB.o);have HS1:=hide (HS0.o.trans hb9);obtain ⟨_,_,_,_,_,_,_,hB9,_⟩:=hm9;have hpw:=hB9.lt;obtain ⟨t0,t1,t2,t3,t4,t5,t6,t7,t8,t9,t10,t11,t12,t13,t14,t15⟩:=hB9.cells;have f14:=hB9.frozen 14;clear hb9 hB9 t0 t1 t2 t3 t4 t5 t6 t7 t8 t9 t10 t11 t12 t13 t15;have y0:=HB1.o.cell (i:=0) rfl;have v0:=HB1.o.frozen 0;have y1:=HB1.o.cell (i:=1) rfl;have v1:=HB1.o.frozen 1;have y2:=HB1.o.cell (i:=2) rfl;have v2:=HB1.o.frozen 2;have y3:=HB1.o.cell (i:=3) rfl;have v3:=HB1.o.frozen 3;have y4:=HB1.o.cell (i:=4) rfl;have v4:=HB1.o.frozen 4;have y5:=HB1.o.cell (i:=5) rfl;have v5:=HB1.o.frozen 5;have y6:=HB1.o.cell (i:=6) rfl;have v6:=HB1.o.frozen 6;have HM2:Hid (MAt (W.setCell ⟨p,14,none⟩ (iv c.feW)) lo mid hi p g3 c.fe2):=hide (HM1.o.cWo c.feW);have HB2:=hide (HB1.o.other p 14 (iv c.feW) (by omega));have HS2:=hide (HS1.o.set p 14 (iv c.feW) HPH.o);have hbW:=HB1.o.lt)|(go_at_call 68;have z9:=nI;refine st (bT _ lo mid hi p g3 _ HM1.o) ?_;rw [hf1])|(go_at_call 100;refine st (kW c.feW _ hw0 hw1) ?_))
    refine bodyPost_ret (v:=.tuple #[.agg (mi c.az),iv c.bH]) ?_ rfl ⟨rfl,g4,?_,?_⟩
    ·rw [results_cell_tmp rfl,E2.o,E3.o];go_simp;rfl
    ·rw [E.o];exact HMp.o.past (xu _ _ _ _ _ _ _ _ _) HHB.o HGp.o
    ·exact sU HSp.o (Nat.le_refl _) _ _ _ _ _ _ _
   ·have hf3:=hf2
    have EV:Hid (c.feN=c.feN):=hide rfl
    have MZ:Hid (Pl.dH ⟨(Pl.decode c.feW c.feN).op,(Pl.decode c.feW c.feN).z,(Pl.decode c.feW c.feN).r,(Pl.decode c.feW c.feN).m,(Pl.decode c.feW c.feN).k,(Pl.decode c.feW c.feN).e,(Pl.decode c.feW c.feN).s⟩=Pl.dH c.feX):=hide (by unfold Pl.Mc.feX;rw [EV.o])
    cases ho:Pl.dH c.feX
    ·have HOK:=hide (MZ.o.trans ho)
     have E:Hid (c.fetch=c.fe4):=hide (by unfold Pl.Mc.fetch;rw [hf1,hf3,ho];rfl)
     have E2:Hid (c.az=Pl.vP):=hide (by unfold Pl.Mc.az;rw [hf1,hf3,ho];rfl)
     have E3:Hid (c.bH=0):=hide (by unfold Pl.Mc.bH;rw [hf1,hf3,ho];rfl)
     go_enter func67,ntmps67
     go_wp2_with (first|(go_at_call 82;have z9:=HM2;refine (ig _ lo mid hi p g3 c.fe2 3 2 c.feA 0 HM2.o HG2.o HA2.o).mono ?_;rw [show Pl.Mc.jI c.fe2 3 2 c.feA 0=c.feN from EN.o];rintro e9 W5 ⟨rfl,g4,hm9,hb9⟩;have HMp:Hid (MAt W5 lo mid hi p g4 c.fe3):=hide (by rw [E4.o];exact hm9);have HBp:=hide (hb9.blk HB2.o HHB.o nI.o);have HGp:=hide (hb9.ne (by simp;omega) nI.o);have HSp:=hide (HS2.o.trans hb9);clear hm9 hb9;clear y0 y1 y2 y3 y4 y5 y6 v0 v1 v2 v3 v4 v5 v6;have y0:=HBp.o.cell (i:=0) rfl;have v0:=HBp.o.frozen 0;have y1:=HBp.o.cell (i:=1) rfl;have v1:=HBp.o.frozen 1;have y2:=HBp.o.cell (i:=2) rfl;have v2:=HBp.o.frozen 2;have y3:=HBp.o.cell (i:=3) rfl;have v3:=HBp.o.frozen 3;have y4:=HBp.o.cell (i:=4) rfl;have v4:=HBp.o.frozen 4;have y5:=HBp.o.cell (i:=5) rfl;have v5:=HBp.o.frozen 5;have y6:=HBp.o.cell (i:=6) rfl;have v6:=HBp.o.frozen 6)|(go_at_call 68;have z9:=HGp;refine st (bT _ lo mid hi p g4 _ HMp.o) ?_;rw [hf2])|(go_at_call 82;refine (ig _ lo mid hi p g2 c.fe0 3 2 c.r.p 0 HM0.o HG0.o HA0.o).mono ?_;rw [show Pl.Mc.jI c.fe0 3 2 c.r.p 0=c.feW from rfl];rintro e9 W ⟨rfl,g3,hm9,hb9⟩;have HM1:Hid (MAt W lo mid hi p g3 c.fe1):=hide hm9;have HB1:=hide (hb9.blk HBO.o HHB.o HGB.o);have nI:=hide (hb9.ne (by simp;omega) HGB.o);have HS1:=hide (HS0.o.trans hb9);obtain ⟨_,_,_,_,_,_,_,hB9,_⟩:=hm9;have hpw:=hB9.lt;obtain ⟨t0,t1,t2,t3,t4,t5,t6,t7,t8,t9,t10,t11,t12,t13,t14,t15⟩:=hB9.cells;have f14:=hB9.frozen 14;clear hb9 hB9 t0 t1 t2 t3 t4 t5 t6 t7 t8 t9 t10 t11 t12 t13 t15;have y0:=HB1.o.cell (i:=0) rfl;have v0:=HB1.o.frozen 0;have y1:=HB1.o.cell (i:=1) rfl;have v1:=HB1.o.frozen 1;have y2:=HB1.o.cell (i:=2) rfl;have v2:=HB1.o.frozen 2;have y3:=HB1.o.cell (i:=3) rfl;have v3:=HB1.o.frozen 3;have y4:=HB1.o.cell (i:=4) rfl;have v4:=HB1.o.frozen 4;have y5:=HB1.o.cell (i:=5) rfl;have v5:=HB1.o.frozen 5;have y6:=HB1.o.cell (i:=6) rfl;have v6:=HB1.o.frozen 6;have HM2:Hid (MAt (W.setCell ⟨p,14,none⟩ (iv c.feW)) lo mid hi p g3 c.fe2):=hide (HM1.o.cWo c.feW);have HB2:=hide (HB1.o.other p 14 (iv c.feW) (by omega));have HS2:=hide (HS1.o.set p 14 (iv c.feW) HPH.o);have hbW:=HB1.o.lt)|(go_at_call 68;have z9:=nI;refine st (bT _ lo mid hi p g3 _ HM1.o) ?_;rw [hf1])|(go_at_call 100;refine st (kW c.feW _ hw0 hw1) ?_)|(go_at_call 101;have z9:=HGp;refine (nN _ c.feW c.feN hw0 hw1).mono ?_;rintro e9 W3 ⟨rfl,hk9⟩;have HK3:=hide hk9;clear hk9)|(go_at_call 102;have z9:=HK3;refine (lL _ (Pl.decode c.feW c.feN).op (Pl.decode c.feW c.feN).z (Pl.decode c.feW c.feN).r (Pl.decode c.feW c.feN).m (Pl.decode c.feW c.feN).k (Pl.decode c.feW c.feN).e (Pl.decode c.feW c.feN).s).mono ?_;rintro e9 W4 ⟨rfl,hk9⟩;rw [HOK.o];have K4:=hide ((ah HK3.o (.cells #[iv (Pl.decode c.feW c.feN).op,iv (Pl.decode c.feW c.feN).z,iv (Pl.decode c.feW c.feN).r,iv (Pl.decode c.feW c.feN).m,iv (Pl.decode c.feW c.feN).k,iv (Pl.decode c.feW c.feN).e,iv (Pl.decode c.feW c.feN).s] 109)).trans hk9);have BX4:=hide ((Blk.new W3 #[iv (Pl.decode c.feW c.feN).op,iv (Pl.decode c.feW c.feN).z,iv (Pl.decode c.feW c.feN).r,iv (Pl.decode c.feW c.feN).m,iv (Pl.decode c.feW c.feN).k,iv (Pl.decode c.feW c.feN).e,iv (Pl.decode c.feW c.feN).s] 109).af hk9);have HM4:=hide (HMp.o.any K4.o);have HB4:=hide (HBp.o.af K4.o);have HS4:=hide (HSp.o.any K4.o);clear hk9;clear y0 y1 y2 y3 y4 y5 y6 v0 v1 v2 v3 v4 v5 v6;have y0:=HB4.o.cell (i:=0) rfl;have v0:=HB4.o.frozen 0;have y1:=HB4.o.cell (i:=1) rfl;have v1:=HB4.o.frozen 1;have y2:=HB4.o.cell (i:=2) rfl;have v2:=HB4.o.frozen 2;have y3:=HB4.o.cell (i:=3) rfl;have v3:=HB4.o.frozen 3;have y4:=HB4.o.cell (i:=4) rfl;have v4:=HB4.o.frozen 4;have y5:=HB4.o.cell (i:=5) rfl;have v5:=HB4.o.frozen 5;have y6:=HB4.o.cell (i:=6) rfl;have v6:=HB4.o.frozen 6;have x0:=BX4.o.all;have hx4:=HM4.o;obtain ⟨_,_,_,_,_,_,_,hB9,_⟩:=hx4;have hpw4:=hB9.lt;have hbw4:=HB4.o.lt;have hxw4:=BX4.o.lt;obtain ⟨t0,t1,t2,t3,t4,t5,t6,t7,t8,t9,t10,t11,_⟩:=hB9.cells;have f11:=hB9.frozen 11;clear hB9 t0 t1 t2 t3 t4 t5 t6 t7 t8 t9 t10))
     refine bodyPost_ret (v:=.tuple #[.agg (mi c.az),iv c.bH]) ?_ rfl ⟨rfl,g4,?_,?_⟩
     ·rw [results_cell_tmp rfl,E2.o,E3.o];go_simp;rfl
     ·rw [E.o];exact (HM4.o.cV 4).past (xu _ _ _ _ _ _ _ _ _) HHB.o HGp.o
     ·exact sU (HS4.o.set p 11 _ HPH.o) (Nat.le_refl _) _ _ _ _ _ _ _
    ·have HOK:=hide (MZ.o.trans ho)
     have E:Hid (c.fetch=c.fe3):=hide (by unfold Pl.Mc.fetch;rw [hf1,hf3,ho];rfl)
     have E2:Hid (c.az=Pl.decode c.feW c.feN):=hide (by unfold Pl.Mc.az;rw [hf1,hf3,ho];unfold Pl.Mc.feX;rw [EV.o];rfl)
     have E3:Hid (c.bH=Pl.fH c.feW):=hide (by unfold Pl.Mc.bH;rw [hf1,hf3,ho];rfl)
     go_enter func67,ntmps67
     go_wp2_with (first|(go_at_call 82;have z9:=HM2;refine (ig _ lo mid hi p g3 c.fe2 3 2 c.feA 0 HM2.o HG2.o HA2.o).mono ?_;rw [show Pl.Mc.jI c.fe2 3 2 c.feA 0=c.feN from EN.o];rintro e9 W5 ⟨rfl,g4,hm9,hb9⟩;have HMp:Hid (MAt W5 lo mid hi p g4 c.fe3):=hide (by rw [E4.o];exact hm9);have HBp:=hide (hb9.blk HB2.o HHB.o nI.o);have HGp:=hide (hb9.ne (by simp;omega) nI.o);have HSp:=hide (HS2.o.trans hb9);clear hm9 hb9;clear y0 y1 y2 y3 y4 y5 y6 v0 v1 v2 v3 v4 v5 v6;have y0:=HBp.o.cell (i:=0) rfl;have v0:=HBp.o.frozen 0;have y1:=HBp.o.cell (i:=1) rfl;have v1:=HBp.o.frozen 1;have y2:=HBp.o.cell (i:=2) rfl;have v2:=HBp.o.frozen 2;have y3:=HBp.o.cell (i:=3) rfl;have v3:=HBp.o.frozen 3;have y4:=HBp.o.cell (i:=4) rfl;have v4:=HBp.o.frozen 4;have y5:=HBp.o.cell (i:=5) rfl;have v5:=HBp.o.frozen 5;have y6:=HBp.o.cell (i:=6) rfl;have v6:=HBp.o.frozen 6)|(go_at_call 68;have z9:=HGp;refine st (bT _ lo mid hi p g4 _ HMp.o) ?_;rw [hf2])|(go_at_call 82;refine (ig _ lo mid hi p g2 c.fe0 3 2 c.r.p 0 HM0.o HG0.o HA0.o).mono ?_;rw [show Pl.Mc.jI c.fe0 3 2 c.r.p 0=c.feW from rfl];rintro e9 W ⟨rfl,g3,hm9,hb9⟩;have HM1:Hid (MAt W lo mid hi p g3 c.fe1):=hide hm9;have HB1:=hide (hb9.blk HBO.o HHB.o HGB.o);have nI:=hide (hb9.ne (by simp;omega) HGB.o);have HS1:=hide (HS0.o.trans hb9);obtain ⟨_,_,_,_,_,_,_,hB9,_⟩:=hm9;have hpw:=hB9.lt;obtain ⟨t0,t1,t2,t3,t4,t5,t6,t7,t8,t9,t10,t11,t12,t13,t14,t15⟩:=hB9.cells;have f14:=hB9.frozen 14;clear hb9 hB9 t0 t1 t2 t3 t4 t5 t6 t7 t8 t9 t10 t11 t12 t13 t15;have y0:=HB1.o.cell (i:=0) rfl;have v0:=HB1.o.frozen 0;have y1:=HB1.o.cell (i:=1) rfl;have v1:=HB1.o.frozen 1;have y2:=HB1.o.cell (i:=2) rfl;have v2:=HB1.o.frozen 2;have y3:=HB1.o.cell (i:=3) rfl;have v3:=HB1.o.frozen 3;have y4:=HB1.o.cell (i:=4) rfl;have v4:=HB1.o.frozen 4;have y5:=HB1.o.cell (i:=5) rfl;have v5:=HB1.o.frozen 5;have y6:=HB1.o.cell (i:=6) rfl;have v6:=HB1.o.frozen 6;have HM2:Hid (MAt (W.setCell ⟨p,14,none⟩ (iv c.feW)) lo mid hi p g3 c.fe2):=hide (HM1.o.cWo c.feW);have HB2:=hide (HB1.o.other p 14 (iv c.feW) (by omega));have HS2:=hide (HS1.o.set p 14 (iv c.feW) HPH.o);have hbW:=HB1.o.lt)|(go_at_call 68;have z9:=nI;refine st (bT _ lo mid hi p g3 _ HM1.o) ?_;rw [hf1])|(go_at_call 100;refine st (kW c.feW _ hw0 hw1) ?_)|(go_at_call 101;have z9:=HGp;refine (nN _ c.feW c.feN hw0 hw1).mono ?_;rintro e9 W3 ⟨rfl,hk9⟩;have HK3:=hide hk9;clear hk9)|(go_at_call 102;have z9:=HK3;refine (lL _ (Pl.decode c.feW c.feN).op (Pl.decode c.feW c.feN).z (Pl.decode c.feW c.feN).r (Pl.decode c.feW c.feN).m (Pl.decode c.feW c.feN).k (Pl.decode c.feW c.feN).e (Pl.decode c.feW c.feN).s).mono ?_;rintro e9 W4 ⟨rfl,hk9⟩;rw [HOK.o];have K4:=hide ((ah HK3.o (.cells #[iv (Pl.decode c.feW c.feN).op,iv (Pl.decode c.feW c.feN).z,iv (Pl.decode c.feW c.feN).r,iv (Pl.decode c.feW c.feN).m,iv (Pl.decode c.feW c.feN).k,iv (Pl.decode c.feW c.feN).e,iv (Pl.decode c.feW c.feN).s] 109)).trans hk9);have BX4:=hide ((Blk.new W3 #[iv (Pl.decode c.feW c.feN).op,iv (Pl.decode c.feW c.feN).z,iv (Pl.decode c.feW c.feN).r,iv (Pl.decode c.feW c.feN).m,iv (Pl.decode c.feW c.feN).k,iv (Pl.decode c.feW c.feN).e,iv (Pl.decode c.feW c.feN).s] 109).af hk9);have HM4:=hide (HMp.o.any K4.o);have HB4:=hide (HBp.o.af K4.o);have HS4:=hide (HSp.o.any K4.o);clear hk9;clear y0 y1 y2 y3 y4 y5 y6 v0 v1 v2 v3 v4 v5 v6;have y0:=HB4.o.cell (i:=0) rfl;have v0:=HB4.o.frozen 0;have y1:=HB4.o.cell (i:=1) rfl;have v1:=HB4.o.frozen 1;have y2:=HB4.o.cell (i:=2) rfl;have v2:=HB4.o.frozen 2;have y3:=HB4.o.cell (i:=3) rfl;have v3:=HB4.o.frozen 3;have y4:=HB4.o.cell (i:=4) rfl;have v4:=HB4.o.frozen 4;have y5:=HB4.o.cell (i:=5) rfl;have v5:=HB4.o.frozen 5;have y6:=HB4.o.cell (i:=6) rfl;have v6:=HB4.o.frozen 6;have x0:=BX4.o.all;have hx4:=HM4.o;obtain ⟨_,_,_,_,_,_,_,hB9,_⟩:=hx4;have hpw4:=hB9.lt;have hbw4:=HB4.o.lt;have hxw4:=BX4.o.lt;obtain ⟨t0,t1,t2,t3,t4,t5,t6,t7,t8,t9,t10,t11,_⟩:=hB9.cells;have f11:=hB9.frozen 11;clear hB9 t0 t1 t2 t3 t4 t5 t6 t7 t8 t9 t10))
     refine bodyPost_ret (v:=.tuple #[.agg (mi c.az),iv c.bH]) ?_ rfl ⟨rfl,g4,?_,?_⟩
     ·rw [results_cell_tmp rfl,E2.o,E3.o];go_simp;rfl
     ·rw [E.o];exact HM4.o.past (xu _ _ _ _ _ _ _ _ _) HHB.o HGp.o
     ·exact sU HS4.o (Nat.le_refl _) _ _ _ _ _ _ _
def ftC (f:Pl.Ft):Array Value:=(ftA f)
theorem iD {fn:Func} {p q:Tmp} {ty tz:TypeId} (h:fn.results=#[.cell p ty,.cell q tz]) (tmps:Array Value) (P:Program) (w:World) :
  (results fn tmps).run P w=((asAddr (tmps.getD p undef)).run P w).andThen fun a w₁=>((loadVar ty a).run P w₁).andThen fun v w₂=>((asAddr (tmps.getD q undef)).run P w₂).andThen fun b w₃=>((loadVar tz b).run P w₃).andThen fun u w₄=>.ok (.tuple #[v,u]) w₄:=by
 simp only [results,h]
 simp [Sem.run_bind,Result.andThen]
theorem gZ {fn:Func} {p q:Tmp} {tz:TypeId} (h:fn.results=#[.tmp p,.cell q tz]) (tmps:Array Value) (P:Program) (w:World) :
  (results fn tmps).run P w=((asAddr (tmps.getD q undef)).run P w).andThen fun b w₁=>((loadVar tz b).run P w₁).andThen fun u w₂=>.ok (.tuple #[tmps.getD p undef,u]) w₂:=by
 simp only [results,h]
 simp [Sem.run_bind,Result.andThen]
theorem Pl.GM.fetch {c:Pl.Mc} (h:Pl.GM c):Pl.GM c.fetch:=by
 have h0:Pl.GM c.fe0:=h.ft _
 have h1:Pl.GM c.fe1:=h0.acc (Pl.iO (.inr rfl) h.p0 h.p1)
 have h2:Pl.GM c.fe2:=h1.ft _
 have h3:Pl.GM c.fe3:=by
  unfold Pl.Mc.fe3
  cases Pl.fH c.feW==2
  ·exact h2
  ·exact h2.acc (Pl.iO (.inr rfl) (by unfold Pl.Mc.feA;omega) (by unfold Pl.Mc.feA;omega))
 unfold Pl.Mc.fetch
 cases !c.fe1.fine
 ·cases !c.fe3.fine
  ·cases !Pl.dH c.feX
   ·exact h3
   ·exact h3.ft _
  ·exact h3
 ·exact h1
theorem MB.laid2 {w:World} {p gd cd ga ca g1 c1 g2 c2:Nat} {c:Pl.Mc} (h:MB w p gd cd ga ca g1 c1 g2 c2 c) (r:Pl.Rg) (gd' cd' ga' ca':Nat):MB ((((((((w.setCell ⟨p,0,none⟩ ((.slice (some ⟨gd',0,none⟩) 4 cd'))).setCell ⟨p,1,none⟩ ((.slice (some ⟨ga',0,none⟩) 4 ca'))).setCell ⟨p,2,none⟩ ((iv r.o))).setCell ⟨p,3,none⟩ ((iv r.p))).setCell ⟨p,4,none⟩ ((iv r.f))).setCell ⟨p,5,none⟩ ((iv r.m))).setCell ⟨p,6,none⟩ ((.bool r.s))).setCell ⟨p,7,none⟩ ((.bool r.t))) p gd' cd' ga' ca' g1 c1 g2 c2 (c.dB r):=by
 have q:=(((((((Blk.set h 0 (.slice (some ⟨gd',0,none⟩) 4 cd')).set 1 (.slice (some ⟨ga',0,none⟩) 4 ca')).set 2 (iv r.o)).set 3 (iv r.p)).set 4 (iv r.f)).set 5 (iv r.m)).set 6 (.bool r.s)).set 7 (.bool r.t)
 unfold jR at q
 rw [QJ,QI,QH,Iq,Ip,QG,QF,QE] at q
 exact q
theorem fJ {w w':World} {lo hi g g':Nat} (h:Since w lo hi g w' g') (hg:lo≤g) (hs:lo≤w.heap.size):Below lo w w':=⟨h.2.os,h.2.tape,h.2.output,h.2.size,fun k hk=>h.2.block k (by omega) (by unfold own;omega)⟩
theorem dD {w w':World} {lo:Nat} (k:Kept 0 0 w w') (hs:lo≤w.heap.size):Below lo w w':=⟨k.os,k.tape,k.output,k.size,fun i hi=>k.block i (by omega) (by omega)⟩
theorem Blk.below {w w':World} {lo b:Nat} {cs:Array Value} {ty:TypeId} (h:Blk w b cs ty) (k:Below lo w w') (hb:b<lo):Blk w' b cs ty:=(k.block b hb).trans h
theorem MAt.qO {w:World} {lo mid hi p g2:Nat} {c:Pl.Mc} (h:MAt w lo mid hi p g2 c):lo≤g2:=by
 obtain ⟨gd,cd,ga,ca,g1,c1,c2,hB,hO⟩:=h
 have:=hO.g2;have:=hO.d0;have:=hO.d1
 omega
theorem yO {W:World} {p gd cd ga ca g1 c1 g2 c2:Nat} {c:Pl.Mc} (hB:MB W p gd cd ga ca g1 c1 g2 c2 c):W.cell? ⟨p,11,none⟩=some (iv c.f.v)∧W.cell? ⟨p,12,none⟩=some (iv c.f.pc)∧W.cell? ⟨p,13,none⟩=some (iv c.f.ad)∧W.cell? ⟨p,14,none⟩=some (iv c.f.wo)∧W.cell? ⟨p,15,none⟩=some (.bool c.f.wr):=by
 obtain ⟨t0,t1,t2,t3,t4,t5,t6,t7,t8,t9,t10,t11,t12,t13,t14,t15⟩:=hB.cells
 exact ⟨t11,t12,t13,t14,t15⟩
theorem Wi (w:World) (b:Nat) (v0 v1 v2 v3 v4:Value):Kept b (b+1) w (((((w.setCell ⟨b,0,none⟩ v0).setCell ⟨b,1,none⟩ v1).setCell ⟨b,2,none⟩ v2).setCell ⟨b,3,none⟩ v3).setCell ⟨b,4,none⟩ v4):=((((ak w b 0 v0).one 1 v1).one 2 v2).one 3 v3).one 4 v4
theorem MB.pO {w:World} {p gd cd ga ca g1 c1 g2 c2 b:Nat} {c:Pl.Mc} (h:MB w p gd cd ga ca g1 c1 g2 c2 c) (hn:¬(b≤p∧p<b+1)) (v0 v1 v2 v3 v4 v5 v6 v7 v8 v9 v10 v11:Value):MB ((((((((((((w.setCell ⟨b,0,none⟩ v0).setCell ⟨b,1,none⟩ v1).setCell ⟨b,2,none⟩ v2).setCell ⟨b,3,none⟩ v3).setCell ⟨b,4,none⟩ v4).setCell ⟨b,5,none⟩ v5).setCell ⟨b,6,none⟩ v6).setCell ⟨b,7,none⟩ v7).setCell ⟨b,8,none⟩ v8).setCell ⟨b,9,none⟩ v9).setCell ⟨b,10,none⟩ v10).setCell ⟨b,11,none⟩ v11) p gd cd ga ca g1 c1 g2 c2 c:=Blk.kept h (JZ _ _ v0 v1 v2 v3 v4 v5 v6 v7 v8 v9 v10 v11) hn
theorem MB.Dv {w:World} {p gd cd ga ca g1 c1 g2 c2 b:Nat} {c:Pl.Mc} (h:MB w p gd cd ga ca g1 c1 g2 c2 c) (hn:¬(b≤p∧p<b+1)) (v0 v1 v2 v3 v4:Value):MB (((((w.setCell ⟨b,0,none⟩ v0).setCell ⟨b,1,none⟩ v1).setCell ⟨b,2,none⟩ v2).setCell ⟨b,3,none⟩ v3).setCell ⟨b,4,none⟩ v4) p gd cd ga ca g1 c1 g2 c2 c:=Blk.kept h (Wi _ _ v0 v1 v2 v3 v4) hn
theorem CO.xm {w w':World} {lo' lo x y mid gd ga g1 g2 c2:Nat} {c:Pl.Cp} (h:CO w lo' mid c gd ga g1 g2 c2) (hl:y≤lo') (hb:lo≤lo') (k:Kept x y w w'):CO w' lo mid c gd ga g1 g2 c2:=by
 have q:=h.l.lt g2 rfl
 have:=h.d0;have:=h.d1;have:=h.b0;have:=h.a0;have:=h.a1
 exact ⟨h.d.ai k (by omega),h.a.ai k (by omega),h.b.ai k (by omega),dL h.l k (by omega),by omega,h.d1,by omega,h.a1,h.da,h.b0,Nat.lt_of_lt_of_le h.b1 k.size,h.bl⟩
theorem zG (w:World) (c:Pl.Cp) (a b e q:Option Addr) (ca cb ce cq:Nat) (ha:aJ w a c.r.xs) (hb:aJ w b c.r.ys) (he:aJ w e c.bx) (hq:aJ w q c.bl) (hok:Pl.ik c=true) (hl:c.bl.length=5*c.bm) (hf:(Pl.Mc.ofC c).fetch.fine=false) :
  Calls prog 43 #[.agg #[.slice a 4 ca,.slice b 4 cb,iv c.r.o,iv c.r.p,iv c.r.f,iv c.r.m,.bool c.r.s,.bool c.r.t,.slice e 512 ce,.slice q c.bm cq,.bool c.st,.bool c.ha]] w fun r w'=>∃gd cd ga cA g1 c1 g2 c2 mid:Nat,r=.returned (.tuple #[.agg (jE (Pl.au c) gd cd ga cA g1 c1 g2 c2),.agg (ftC (Pl.dh c))])∧CO w' w.heap.size mid (Pl.au c) gd ga g1 g2 c2∧Kept 0 0 w w':=by
 have HG:=hide (Pl.GM.of hok hl c.st)
 have h4:=HG.o.g.d4
 have h5:=HG.o.g.a4
 have hbx:=HG.o.bx
 have hbm:=HG.o.bm
 have K0:=hide (ah (ah (kept_alloc w (.cells #[.slice a 4 ca,.slice b 4 cb,iv c.r.o,iv c.r.p,iv c.r.f,iv c.r.m,.bool c.r.s,.bool c.r.t,.slice e 512 ce,.slice q c.bm cq,.bool c.st,.bool c.ha] 36)) (.cells cpZ 36)) (.cells ftZ 49))
 have B0:=((Blk.new w #[.slice a 4 ca,.slice b 4 cb,iv c.r.o,iv c.r.p,iv c.r.f,iv c.r.m,.bool c.r.s,.bool c.r.t,.slice e 512 ce,.slice q c.bm cq,.bool c.st,.bool c.ha] 36).alloc (.cells cpZ 36)).alloc (.cells ftZ 49)
 have B1:=(Blk.new (w.alloc (.cells #[.slice a 4 ca,.slice b 4 cb,iv c.r.o,iv c.r.p,iv c.r.f,iv c.r.m,.bool c.r.s,.bool c.r.t,.slice e 512 ce,.slice q c.bm cq,.bool c.st,.bool c.ha] 36)) cpZ 36).alloc (.cells ftZ 49)
 have B2:=Blk.new ((w.alloc (.cells #[.slice a 4 ca,.slice b 4 cb,iv c.r.o,iv c.r.p,iv c.r.f,iv c.r.m,.bool c.r.s,.bool c.r.t,.slice e 512 ce,.slice q c.bm cq,.bool c.st,.bool c.ha] 36)).alloc (.cells cpZ 36)) ftZ 49
 simp only [World.size_alloc] at B1 B2
 obtain ⟨X,hX⟩:∃X:World,((w.alloc (.cells #[.slice a 4 ca,.slice b 4 cb,iv c.r.o,iv c.r.p,iv c.r.f,iv c.r.m,.bool c.r.s,.bool c.r.t,.slice e 512 ce,.slice q c.bm cq,.bool c.st,.bool c.ha] 36)).alloc (.cells cpZ 36)).alloc (.cells ftZ 49)=X:=⟨_,rfl⟩
 rw [hX] at K0 B0 B1 B2
 have hxs:X.heap.size=w.heap.size+3:=by rw [←hX];simp
 have HXS:=hide hxs
 have HB0:=hide B0
 have HB1:=hide B1
 have HB2:=hide B2
 have HA:=hide (ha.ai K0.o)
 have HB:=hide (hb.ai K0.o)
 have HE:=hide (he.ai K0.o)
 have HQ:=hide (hq.ai K0.o)
 have HAw:=hide ha
 have HBw:=hide hb
 clear B0 B1 B2 ha hb he hq hxs
 have i0:=HB0.o.all
 have HGf:Hid (Pl.GM (Pl.Mc.ofC c).fetch):=hide (Pl.GM.fetch HG.o)
 have ES:Pl.stepM c=(Pl.Mc.ofC c).fetch:=by
  have e1:(Pl.Mc.ofC c).s1=(Pl.Mc.ofC c).fetch:=by unfold Pl.Mc.s1;rw [hf];rfl
  unfold Pl.stepM Pl.Mc.s2;rw [e1,hf];rfl
 have EC:Hid (Pl.au c=Pl.Mc.cpu {((Pl.Mc.ofC c).fetch.dB c.r) with st:=c.st} false):=hide (by unfold Pl.au;rw [ES,hf];rfl)
 have EF:Hid (Pl.dh c=(Pl.Mc.ofC c).fetch.f):=hide (by unfold Pl.dh;rw [ES,hf];rfl)
 have HBL:Hid (w.heap.size<X.heap.size):=hide (by have:=HXS.o;omega)
 clear ES
 go_enter func43,ntmps43
 go_wp2_with (first|(go_at_call 68;have z9:=HBm;refine st (bT _ X.heap.size mid W1.heap.size p g3 _ HMZ.o) ?_;rw [hf])|(go_at_call 64;have z9:=HBm;refine (own4 _ c.r a b ca cb (HAw.o.ai HKZ.o) (HBw.o.ai HKZ.o) h4 h5).mono ?_;unfold iQ;rintro e9 W3 ⟨gd',cd',ga',ca',rfl,od,oa,d0,d1,a0,a1,da,k9⟩;have hplt:=HBm.o.lt;have HD3:=hide od;have HA3:=hide oa;have HB3:=hide (HBm.o.any k9);have HO3:=hide (HOm.o.any k9);have HK3:=hide (HKZ.o.trans k9);have HZ3:=hide (HZB.o.af k9);have HL3:=hide (HLZ.o.trans (dD k9 (Nat.le_trans (Nat.le_refl X.heap.size) HLZ.o.size)));clear od oa k9 i0;have i10:=HZ3.o.cell (i:=10) rfl;obtain ⟨u0,u1,u2,u3,u4,u5,u6,u7,u8,u9,u10,u11,u12,u13,u14,u15⟩:=HB3.o.cells;have q0:=HB3.o.frozen 0;have q1:=HB3.o.frozen 1;have q2:=HB3.o.frozen 2;have q3:=HB3.o.frozen 3;have q4:=HB3.o.frozen 4;have q5:=HB3.o.frozen 5;have q6:=HB3.o.frozen 6;have q7:=HB3.o.frozen 7;have q10:=HB3.o.frozen 10)|(go_at_call 66;refine (tC _ c a b e q ca cb ce cq HA.o HB.o HE.o HQ.o h4 h5 hbx hl hbm).mono ?_;rintro e9 W1 ⟨mid,p,g2,rfl,hm9,hp9,k9⟩;have HM1:=hide hm9;have HK1:=hide k9;have HP1:=hide hp9;have HL1:=hide (dD k9 (Nat.le_refl X.heap.size));obtain ⟨_,_,_,_,_,_,_,hB9,_⟩:=hm9;have hpw1:=hB9.lt;have t3:=(MB.cells hB9).2.2.2.1;clear hp9 k9 hB9)|(go_at_call 67;refine (tJ _ X.heap.size mid W1.heap.size p g2 (Pl.Mc.ofC c) HM1.o HG.o).mono ?_;rintro e9 W2 ⟨rfl,g3,hm9,hb9⟩;have HM2:=hide hm9;have HS2:=hide hb9;have HL2:=hide (HL1.o.trans (fJ hb9 HM1.o.qO HL1.o.size));clear hm9 hb9 t3;unfold mi;have KZ:=kept_alloc W2 (.cells #[iv (Pl.Mc.ofC c).az.op,iv (Pl.Mc.ofC c).az.z,iv (Pl.Mc.ofC c).az.r,iv (Pl.Mc.ofC c).az.m,iv (Pl.Mc.ofC c).az.k,iv (Pl.Mc.ofC c).az.e,iv (Pl.Mc.ofC c).az.s] 109);have BZ:=Blk.new W2 #[iv (Pl.Mc.ofC c).az.op,iv (Pl.Mc.ofC c).az.z,iv (Pl.Mc.ofC c).az.r,iv (Pl.Mc.ofC c).az.m,iv (Pl.Mc.ofC c).az.k,iv (Pl.Mc.ofC c).az.e,iv (Pl.Mc.ofC c).az.s] 109;obtain ⟨Z,hZ⟩:∃Z:World,W2.alloc (.cells #[iv (Pl.Mc.ofC c).az.op,iv (Pl.Mc.ofC c).az.z,iv (Pl.Mc.ofC c).az.r,iv (Pl.Mc.ofC c).az.m,iv (Pl.Mc.ofC c).az.k,iv (Pl.Mc.ofC c).az.e,iv (Pl.Mc.ofC c).az.s] 109)=Z:=⟨_,rfl⟩;rw [hZ] at KZ BZ;have HBZ:=hide BZ;have HMZ:=hide (HM2.o.any KZ);have HLZ:=hide (HL2.o.trans (dD KZ (Nat.le_trans (Nat.le_refl X.heap.size) HL2.o.size)));have HKZ:=hide (dJ K0.o HLZ.o K0.o.size);clear KZ BZ;have HZB:=hide (HB0.o.below HLZ.o HBL.o);clear i0;have i0:=HZB.o.cell (i:=0) rfl;have i1:=HZB.o.cell (i:=1) rfl;have i2:=HZB.o.cell (i:=2) rfl;have i3:=HZB.o.cell (i:=3) rfl;have i4:=HZB.o.cell (i:=4) rfl;have i5:=HZB.o.cell (i:=5) rfl;have i6:=HZB.o.cell (i:=6) rfl;have i7:=HZB.o.cell (i:=7) rfl;have i8:=HZB.o.cell (i:=8) rfl;have i9:=HZB.o.cell (i:=9) rfl;have i10:=HZB.o.cell (i:=10) rfl;have i11:=HZB.o.cell (i:=11) rfl;have hzm:=HMZ.o;obtain ⟨gd,cd,ga,cA,g1,c1,c2,hB9,hO9⟩:=hzm;have HBm:=hide hB9;have HOm:=hide hO9;have hpz:=hB9.lt;clear hB9 hO9))
 have hd3:=HD3.o.lt (by rw [h4];decide)
 have KP:=(MB.jf (w:=W3) (p:=p) (.slice (some ⟨gd',0,none⟩) 4 cd') (.slice (some ⟨ga',0,none⟩) 4 ca') (iv c.r.o) (iv c.r.p) (iv c.r.f) (iv c.r.m) (.bool c.r.s) (.bool c.r.t)).one 10 (.bool c.st)
 have MY:MB (((((((((W3.setCell ⟨p,0,none⟩ ((.slice (some ⟨gd',0,none⟩) 4 cd'))).setCell ⟨p,1,none⟩ ((.slice (some ⟨ga',0,none⟩) 4 ca'))).setCell ⟨p,2,none⟩ ((iv c.r.o))).setCell ⟨p,3,none⟩ ((iv c.r.p))).setCell ⟨p,4,none⟩ ((iv c.r.f))).setCell ⟨p,5,none⟩ ((iv c.r.m))).setCell ⟨p,6,none⟩ ((.bool c.r.s))).setCell ⟨p,7,none⟩ ((.bool c.r.t))).setCell ⟨p,10,none⟩ (.bool c.st)) p gd' cd' ga' ca' g1 c1 g3 c2 {((Pl.Mc.ofC c).fetch.dB c.r) with st:=c.st}:=(HB3.o.laid2 c.r gd' cd' ga' ca').cSt c.st
 generalize (((((((((W3.setCell ⟨p,0,none⟩ ((.slice (some ⟨gd',0,none⟩) 4 cd'))).setCell ⟨p,1,none⟩ ((.slice (some ⟨ga',0,none⟩) 4 ca'))).setCell ⟨p,2,none⟩ ((iv c.r.o))).setCell ⟨p,3,none⟩ ((iv c.r.p))).setCell ⟨p,4,none⟩ ((iv c.r.f))).setCell ⟨p,5,none⟩ ((iv c.r.m))).setCell ⟨p,6,none⟩ ((.bool c.r.s))).setCell ⟨p,7,none⟩ ((.bool c.r.t))).setCell ⟨p,10,none⟩ (.bool c.st))=Y at KP MY ⊢
 have hop:=HO3.o.p0
 have hob:=HO3.o.b0
 have hog:=HO3.o.g2
 have hobl:=HO3.o.pb
 have hopl:=HO3.o.pl
 have hos:=HO3.o.d0
 have hos2:=HO3.o.d1
 have HYd:=hide (HD3.o.ai KP (by omega)).row
 have HYa:=hide (HA3.o.ai KP (by omega)).row
 have HYb:=hide (HO3.o.b.ai KP (by omega)).row
 have HYl:=hide ((gX HO3.o.l).ai KP (by omega)).row
 have KDY:=hide (ae (Kept.refl 0 0 Y))
 have HMY:=hide (MY.any KDY.o)
 have LY:=hide ((HL3.o.trans (qH KP (by omega) (by have:=HL3.o.size;omega))).drew)
 have HKY:=hide (dJ K0.o LY.o K0.o.size)
 have Dc:=hide (HB1.o.below LY.o (by have:=HXS.o;omega))
 have CX:=hide (HB2.o.below LY.o (by have:=HXS.o;omega))
 have HN1:Hid (¬(w.heap.size+1≤p∧p<w.heap.size+1+1)):=hide (by have:=HXS.o;omega)
 have HN2:Hid (¬(w.heap.size+1+1≤p∧p<w.heap.size+1+1+1)):=hide (by have:=HXS.o;omega)
 have CF:∀W:World,MB W p gd' cd' ga' ca' g1 c1 g3 c2 {((Pl.Mc.ofC c).fetch.dB c.r) with st:=c.st}→W.cell? ⟨p,11,none⟩=some (iv (Pl.Mc.ofC c).fetch.f.v)∧W.cell? ⟨p,12,none⟩=some (iv (Pl.Mc.ofC c).fetch.f.pc)∧W.cell? ⟨p,13,none⟩=some (iv (Pl.Mc.ofC c).fetch.f.ad)∧W.cell? ⟨p,14,none⟩=some (iv (Pl.Mc.ofC c).fetch.f.wo)∧W.cell? ⟨p,15,none⟩=some (.bool (Pl.Mc.ofC c).fetch.f.wr):=fun W h=>by have z:=yO h;exact z
 have SY:=CF _ HMY.o
 have hyz:X.heap.size≤Y.drew.heap.size:=LY.o.size
 clear KP MY
 go_region_held3 (fun w'=>w'.cell? ⟨p,11,none⟩=some (iv (Pl.Mc.ofC c).fetch.f.v)∧w'.cell? ⟨p,12,none⟩=some (iv (Pl.Mc.ofC c).fetch.f.pc)∧w'.cell? ⟨p,13,none⟩=some (iv (Pl.Mc.ofC c).fetch.f.ad)∧w'.cell? ⟨p,14,none⟩=some (iv (Pl.Mc.ofC c).fetch.f.wo)∧w'.cell? ⟨p,15,none⟩=some (.bool (Pl.Mc.ofC c).fetch.f.wr)) (first|with_reducible exact SY|with_reducible exact S4|with_reducible exact CF _ (HM4.o.pO HN1.o _ _ _ _ _ _ _ _ _ _ _ _)|with_reducible exact CF _ ((HM4.o.pO HN1.o _ _ _ _ _ _ _ _ _ _ _ _).Dv HN2.o _ _ _ _ _)|go_keep) (first|(go_at_call 71;refine (zK _ p gd' cd' ga' ca' g1 c1 g3 c2 {((Pl.Mc.ofC c).fetch.dB c.r) with st:=c.st} HMY.o (HYd.o.ai KDY.o) (HYa.o.ai KDY.o) (HYb.o.ai KDY.o) (HYl.o.ai KDY.o) h4 h5 HGf.o.bx HGf.o.bl HGf.o.bm).mono ?_;unfold jE;rintro e9 W4 ⟨gd4,cd4,ga4,ca4,g14,c14,g24,c24,mid4,rfl,hc9,k9⟩;have HC:=hide hc9;have HM4:=hide (HMY.o.any k9);have S4:=CF _ HM4.o;have HK4:=hide (HKY.o.trans k9);have aN:=hide (Dc.o.af k9);have dI:=hide (CX.o.af k9);have hs4:=dI.o.lt;clear hc9 k9;have o0:=aN.o.cell (i:=0) rfl;have of0:=aN.o.frozen 0;have o1:=aN.o.cell (i:=1) rfl;have of1:=aN.o.frozen 1;have o2:=aN.o.cell (i:=2) rfl;have of2:=aN.o.frozen 2;have o3:=aN.o.cell (i:=3) rfl;have of3:=aN.o.frozen 3;have o4:=aN.o.cell (i:=4) rfl;have of4:=aN.o.frozen 4;have o5:=aN.o.cell (i:=5) rfl;have of5:=aN.o.frozen 5;have o6:=aN.o.cell (i:=6) rfl;have of6:=aN.o.frozen 6;have o7:=aN.o.cell (i:=7) rfl;have of7:=aN.o.frozen 7;have o8:=aN.o.cell (i:=8) rfl;have of8:=aN.o.frozen 8;have o9:=aN.o.cell (i:=9) rfl;have of9:=aN.o.frozen 9;have o10:=aN.o.cell (i:=10) rfl;have of10:=aN.o.frozen 10;have o11:=aN.o.cell (i:=11) rfl;have of11:=aN.o.frozen 11;have y0:=dI.o.cell (i:=0) rfl;have yf0:=dI.o.frozen 0;have y1:=dI.o.cell (i:=1) rfl;have yf1:=dI.o.frozen 1;have y2:=dI.o.cell (i:=2) rfl;have yf2:=dI.o.frozen 2;have y3:=dI.o.cell (i:=3) rfl;have yf3:=dI.o.frozen 3;have y4:=dI.o.cell (i:=4) rfl;have yf4:=dI.o.frozen 4))
 go_wp2_with fail
 have hxs:=HXS.o
 refine bodyPost_ret (v:=.tuple #[.agg (jE (Pl.au c) gd4 cd4 ga4 ca4 g14 c14 g24 c24),.agg (ftC (Pl.dh c))]) ?_ rfl ⟨gd4,cd4,ga4,ca4,g14,c14,g24,c24,mid4,rfl,?co,?kw⟩
 case co=>
  rw [EC.o]
  refine HC.o.xm (x:=w.heap.size+1) (y:=w.heap.size+3) (by omega) (by omega) ?_
  repeat (first|with_reducible exact Kept.refl _ _ _|refine ag ?_ _ _ _ (.inl (by omega)))
 case kw=>repeat (first|with_reducible exact HK4.o|refine ag ?_ _ _ _ (.inr (by omega)))
 rw [iD rfl,EC.o,EF.o];go_simp;exact ⟨rfl,rfl⟩
theorem Pl.ng {c:Pl.Mc} (h:c.fetch.fine=true):Pl.dH c.az=true∧(c.bH=1∨c.bH=2):=by
 unfold Pl.Mc.fetch at h
 cases h1:c.fe1.fine
 ·rw [h1] at h;simp only [Bool.not_false,cond_true] at h;rw [h1] at h;cases h
 ·cases h3:c.fe3.fine
  ·rw [h1,h3] at h;simp only [Bool.not_true,Bool.not_false,cond_true,cond_false] at h;rw [h3] at h;cases h
  ·cases ho:Pl.dH c.feX
   ·rw [h1,h3,ho] at h;simp only [Bool.not_true,Bool.not_false,cond_true,cond_false] at h
    exact absurd h (by unfold Pl.Mc.fine Pl.Mc.fe4;simp)
   ·refine ⟨?_,?_⟩
    ·unfold Pl.Mc.az;rw [h1,h3,ho];exact ho
    ·unfold Pl.Mc.bH;rw [h1,h3,ho];show Pl.fH c.feW=1∨Pl.fH c.feW=2;unfold Pl.fH;split
     ·exact .inr rfl
     ·exact .inl rfl
theorem BB (w:World) (c:Pl.Cp) (a b e q:Option Addr) (ca cb ce cq:Nat) (ha:aJ w a c.r.xs) (hb:aJ w b c.r.ys) (he:aJ w e c.bx) (hq:aJ w q c.bl) (hok:Pl.ik c=true) (hl:c.bl.length=5*c.bm) (hf:(Pl.Mc.ofC c).fetch.fine=true) (hp:Pl.iW (Pl.Mc.ofC c).az=true) (hs:(Pl.Mc.ofC c).fetch.r.s=false) :
  Calls prog 43 #[.agg #[.slice a 4 ca,.slice b 4 cb,iv c.r.o,iv c.r.p,iv c.r.f,iv c.r.m,.bool c.r.s,.bool c.r.t,.slice e 512 ce,.slice q c.bm cq,.bool c.st,.bool c.ha]] w fun r w'=>∃gd cd ga cA g1 c1 g2 c2 mid:Nat,r=.returned (.tuple #[.agg (jE (Pl.au c) gd cd ga cA g1 c1 g2 c2),.agg (ftC (Pl.dh c))])∧CO w' w.heap.size mid (Pl.au c) gd ga g1 g2 c2∧Kept 0 0 w w':=by
 have HG:=hide (Pl.GM.of hok hl c.st)
 have h4:=HG.o.g.d4
 have h5:=HG.o.g.a4
 have hbx:=HG.o.bx
 have hbm:=HG.o.bm
 have K0:=hide (ah (ah (kept_alloc w (.cells #[.slice a 4 ca,.slice b 4 cb,iv c.r.o,iv c.r.p,iv c.r.f,iv c.r.m,.bool c.r.s,.bool c.r.t,.slice e 512 ce,.slice q c.bm cq,.bool c.st,.bool c.ha] 36)) (.cells cpZ 36)) (.cells ftZ 49))
 have B0:=((Blk.new w #[.slice a 4 ca,.slice b 4 cb,iv c.r.o,iv c.r.p,iv c.r.f,iv c.r.m,.bool c.r.s,.bool c.r.t,.slice e 512 ce,.slice q c.bm cq,.bool c.st,.bool c.ha] 36).alloc (.cells cpZ 36)).alloc (.cells ftZ 49)
 have B1:=(Blk.new (w.alloc (.cells #[.slice a 4 ca,.slice b 4 cb,iv c.r.o,iv c.r.p,iv c.r.f,iv c.r.m,.bool c.r.s,.bool c.r.t,.slice e 512 ce,.slice q c.bm cq,.bool c.st,.bool c.ha] 36)) cpZ 36).alloc (.cells ftZ 49)
 have B2:=Blk.new ((w.alloc (.cells #[.slice a 4 ca,.slice b 4 cb,iv c.r.o,iv c.r.p,iv c.r.f,iv c.r.m,.bool c.r.s,.bool c.r.t,.slice e 512 ce,.slice q c.bm cq,.bool c.st,.bool c.ha] 36)).alloc (.cells cpZ 36)) ftZ 49
 simp only [World.size_alloc] at B1 B2
 obtain ⟨X,hX⟩:∃X:World,((w.alloc (.cells #[.slice a 4 ca,.slice b 4 cb,iv c.r.o,iv c.r.p,iv c.r.f,iv c.r.m,.bool c.r.s,.bool c.r.t,.slice e 512 ce,.slice q c.bm cq,.bool c.st,.bool c.ha] 36)).alloc (.cells cpZ 36)).alloc (.cells ftZ 49)=X:=⟨_,rfl⟩
 rw [hX] at K0 B0 B1 B2
 have hxs:X.heap.size=w.heap.size+3:=by rw [←hX];simp
 have HXS:=hide hxs
 have HB0:=hide B0
 have HB1:=hide B1
 have HB2:=hide B2
 have HA:=hide (ha.ai K0.o)
 have HB:=hide (hb.ai K0.o)
 have HE:=hide (he.ai K0.o)
 have HQ:=hide (hq.ai K0.o)
 have HAw:=hide ha
 have HBw:=hide hb
 clear B0 B1 B2 ha hb he hq hxs
 have i0:=HB0.o.all
 have HGf:Hid (Pl.GM ((Pl.Mc.ofC c).fetch.vec 8)):=hide ((Pl.GM.fetch HG.o).ft _)
 have hf8:((Pl.Mc.ofC c).fetch.vec 8).fine=false:=rfl
 have ES:Pl.stepM c=(Pl.Mc.ofC c).fetch.vec 8:=by
  have e1:(Pl.Mc.ofC c).s1=(Pl.Mc.ofC c).fetch.vec 8:=by unfold Pl.Mc.s1;rw [hf,hp,hs];rfl
  unfold Pl.stepM Pl.Mc.s2;rw [e1,hf8];rfl
 have EC:Hid (Pl.au c=Pl.Mc.cpu {(((Pl.Mc.ofC c).fetch.vec 8).dB c.r) with st:=c.st} false):=hide (by unfold Pl.au;rw [ES,hf8];rfl)
 have EF:Hid (Pl.dh c=((Pl.Mc.ofC c).fetch.vec 8).f):=hide (by unfold Pl.dh;rw [ES,hf8];rfl)
 have HBL:Hid (w.heap.size<X.heap.size):=hide (by have:=HXS.o;omega)
 have HPV:Hid (Pl.iW ⟨(Pl.Mc.ofC c).az.op,(Pl.Mc.ofC c).az.z,(Pl.Mc.ofC c).az.r,(Pl.Mc.ofC c).az.m,(Pl.Mc.ofC c).az.k,(Pl.Mc.ofC c).az.e,(Pl.Mc.ofC c).az.s⟩=true):=hide hp
 clear ES hp
 go_enter func43,ntmps43
 go_wp2_with (first|(go_at_call 68;have z9:=HBn;refine st (bT _ X.heap.size mid W1.heap.size p g3 _ HMn.o) ?_;rw [hf8])|(go_at_call 68;have z9:=HBm;refine st (bT _ X.heap.size mid W1.heap.size p g3 _ HMZ.o) ?_;rw [hf])|(go_at_call 64;have z9:=HBn;refine (own4 _ c.r a b ca cb (HAw.o.ai HKn.o) (HBw.o.ai HKn.o) h4 h5).mono ?_;unfold iQ;rintro e9 W3 ⟨gd',cd',ga',ca',rfl,od,oa,d0,d1,a0,a1,da,k9⟩;have hplt:=HBn.o.lt;have HD3:=hide od;have HA3:=hide oa;have HB3:=hide (HBn.o.any k9);have HO3:=hide (HOn.o.any k9);have HK3:=hide (HKn.o.trans k9);have HZ3:=hide (HZn.o.af k9);have HL3:=hide (HLn.o.trans (dD k9 (Nat.le_trans (Nat.le_refl X.heap.size) HLn.o.size)));clear od oa k9 i0;have i10:=HZ3.o.cell (i:=10) rfl;obtain ⟨u0,u1,u2,u3,u4,u5,u6,u7,u8,u9,u10,u11,u12,u13,u14,u15⟩:=HB3.o.cells;have q0:=HB3.o.frozen 0;have q1:=HB3.o.frozen 1;have q2:=HB3.o.frozen 2;have q3:=HB3.o.frozen 3;have q4:=HB3.o.frozen 4;have q5:=HB3.o.frozen 5;have q6:=HB3.o.frozen 6;have q7:=HB3.o.frozen 7;have q10:=HB3.o.frozen 10)|(go_at_call 66;refine (tC _ c a b e q ca cb ce cq HA.o HB.o HE.o HQ.o h4 h5 hbx hl hbm).mono ?_;rintro e9 W1 ⟨mid,p,g2,rfl,hm9,hp9,k9⟩;have HM1:=hide hm9;have HK1:=hide k9;have HP1:=hide hp9;have HL1:=hide (dD k9 (Nat.le_refl X.heap.size));obtain ⟨_,_,_,_,_,_,_,hB9,_⟩:=hm9;have hpw1:=hB9.lt;have t3:=(MB.cells hB9).2.2.2.1;clear hp9 k9 hB9)|(go_at_call 67;refine (tJ _ X.heap.size mid W1.heap.size p g2 (Pl.Mc.ofC c) HM1.o HG.o).mono ?_;rintro e9 W2 ⟨rfl,g3,hm9,hb9⟩;have HM2:=hide hm9;have HS2:=hide hb9;have HL2:=hide (HL1.o.trans (fJ hb9 HM1.o.qO HL1.o.size));clear hm9 hb9 t3;unfold mi;have KZ:=kept_alloc W2 (.cells #[iv (Pl.Mc.ofC c).az.op,iv (Pl.Mc.ofC c).az.z,iv (Pl.Mc.ofC c).az.r,iv (Pl.Mc.ofC c).az.m,iv (Pl.Mc.ofC c).az.k,iv (Pl.Mc.ofC c).az.e,iv (Pl.Mc.ofC c).az.s] 109);have BZ:=Blk.new W2 #[iv (Pl.Mc.ofC c).az.op,iv (Pl.Mc.ofC c).az.z,iv (Pl.Mc.ofC c).az.r,iv (Pl.Mc.ofC c).az.m,iv (Pl.Mc.ofC c).az.k,iv (Pl.Mc.ofC c).az.e,iv (Pl.Mc.ofC c).az.s] 109;obtain ⟨Z,hZ⟩:∃Z:World,W2.alloc (.cells #[iv (Pl.Mc.ofC c).az.op,iv (Pl.Mc.ofC c).az.z,iv (Pl.Mc.ofC c).az.r,iv (Pl.Mc.ofC c).az.m,iv (Pl.Mc.ofC c).az.k,iv (Pl.Mc.ofC c).az.e,iv (Pl.Mc.ofC c).az.s] 109)=Z:=⟨_,rfl⟩;rw [hZ] at KZ BZ;have HBZ:=hide BZ;have HMZ:=hide (HM2.o.any KZ);have HLZ:=hide (HL2.o.trans (dD KZ (Nat.le_trans (Nat.le_refl X.heap.size) HL2.o.size)));have HKZ:=hide (dJ K0.o HLZ.o K0.o.size);clear KZ BZ;have HZB:=hide (HB0.o.below HLZ.o HBL.o);clear i0;have i0:=HZB.o.cell (i:=0) rfl;have i1:=HZB.o.cell (i:=1) rfl;have i2:=HZB.o.cell (i:=2) rfl;have i3:=HZB.o.cell (i:=3) rfl;have i4:=HZB.o.cell (i:=4) rfl;have i5:=HZB.o.cell (i:=5) rfl;have i6:=HZB.o.cell (i:=6) rfl;have i7:=HZB.o.cell (i:=7) rfl;have i8:=HZB.o.cell (i:=8) rfl;have i9:=HZB.o.cell (i:=9) rfl;have i10:=HZB.o.cell (i:=10) rfl;have i11:=HZB.o.cell (i:=11) rfl;have hzm:=HMZ.o;obtain ⟨gd,cd,ga,cA,g1,c1,c2,hB9,hO9⟩:=hzm;have HBm:=hide hB9;have HOm:=hide hO9;have hpz:=hB9.lt;clear hB9 hO9;have x0:=HBZ.o.all;have hzx:=HBZ.o.lt;have HLP:Hid (X.heap.size≤p):=HP1;have HNP:Hid (w.heap.size≠p):=hide (by have:=HBL.o;have:=HP1.o;omega))|(go_at_call 69;have z9:=HBm;refine (pq _ (Pl.Mc.ofC c).az.op (Pl.Mc.ofC c).az.z (Pl.Mc.ofC c).az.r (Pl.Mc.ofC c).az.m (Pl.Mc.ofC c).az.k (Pl.Mc.ofC c).az.e (Pl.Mc.ofC c).az.s).mono ?_;rintro e9 W5 ⟨rfl,k9⟩;rw [HPV.o];have HM5:=hide (HMZ.o.any k9);have HB5:=hide (HBm.o.any k9);have HO5:=hide (HOm.o.any k9);have HZ5:=hide (HZB.o.af k9);have HL5:=hide (HLZ.o.trans (dD k9 (Nat.le_trans (Nat.le_refl X.heap.size) HLZ.o.size)));have HK5:=hide (HKZ.o.trans k9);have HX5:=hide (HBZ.o.af k9);clear k9 x0 i0;have i0:=HZ5.o.cell (i:=0) rfl;have i1:=HZ5.o.cell (i:=1) rfl;have i2:=HZ5.o.cell (i:=2) rfl;have i3:=HZ5.o.cell (i:=3) rfl;have i4:=HZ5.o.cell (i:=4) rfl;have i5:=HZ5.o.cell (i:=5) rfl;have i6:=HZ5.o.cell (i:=6) rfl;have i7:=HZ5.o.cell (i:=7) rfl;have i8:=HZ5.o.cell (i:=8) rfl;have i9:=HZ5.o.cell (i:=9) rfl;have i10:=HZ5.o.cell (i:=10) rfl;have i11:=HZ5.o.cell (i:=11) rfl;have x0:=HX5.o.all;obtain ⟨t0,t1,t2,t3,t4,t5,t6,t7,t8,t9,t10,t11,_⟩:=HB5.o.cells;have f11:=HB5.o.frozen 11;have f3:=HB5.o.frozen 3;have hpw5:=HB5.o.lt;clear t0 t1 t2 t4 t5 t7 t8 t9 t10;rw [hs] at t6;have HBn:Hid (MB (W5.setCell ⟨p,11,none⟩ (iv 8)) p gd cd ga cA g1 c1 g3 c2 ((Pl.Mc.ofC c).fetch.vec 8)):=hide (HB5.o.cV 8);have KPn:=hide (ak W5 p 11 (iv 8));have HOn:=hide (HO5.o.own KPn.o);have HMn:Hid (MAt (W5.setCell ⟨p,11,none⟩ (iv 8)) X.heap.size mid W1.heap.size p g3 ((Pl.Mc.ofC c).fetch.vec 8)):=hide (HM5.o.cV 8);have HLn:=hide (HL5.o.setCell (p:=⟨p,11,none⟩) HLP.o (iv 8));have HKn:=hide (dJ K0.o HLn.o K0.o.size);have HZn:=hide (HZ5.o.other p 11 (iv 8) HNP.o)))
 have hd3:=HD3.o.lt (by rw [h4];decide)
 have KP:=(MB.jf (w:=W3) (p:=p) (.slice (some ⟨gd',0,none⟩) 4 cd') (.slice (some ⟨ga',0,none⟩) 4 ca') (iv c.r.o) (iv c.r.p) (iv c.r.f) (iv c.r.m) (.bool c.r.s) (.bool c.r.t)).one 10 (.bool c.st)
 have MY:MB (((((((((W3.setCell ⟨p,0,none⟩ ((.slice (some ⟨gd',0,none⟩) 4 cd'))).setCell ⟨p,1,none⟩ ((.slice (some ⟨ga',0,none⟩) 4 ca'))).setCell ⟨p,2,none⟩ ((iv c.r.o))).setCell ⟨p,3,none⟩ ((iv c.r.p))).setCell ⟨p,4,none⟩ ((iv c.r.f))).setCell ⟨p,5,none⟩ ((iv c.r.m))).setCell ⟨p,6,none⟩ ((.bool c.r.s))).setCell ⟨p,7,none⟩ ((.bool c.r.t))).setCell ⟨p,10,none⟩ (.bool c.st)) p gd' cd' ga' ca' g1 c1 g3 c2 {(((Pl.Mc.ofC c).fetch.vec 8).dB c.r) with st:=c.st}:=(HB3.o.laid2 c.r gd' cd' ga' ca').cSt c.st
 generalize (((((((((W3.setCell ⟨p,0,none⟩ ((.slice (some ⟨gd',0,none⟩) 4 cd'))).setCell ⟨p,1,none⟩ ((.slice (some ⟨ga',0,none⟩) 4 ca'))).setCell ⟨p,2,none⟩ ((iv c.r.o))).setCell ⟨p,3,none⟩ ((iv c.r.p))).setCell ⟨p,4,none⟩ ((iv c.r.f))).setCell ⟨p,5,none⟩ ((iv c.r.m))).setCell ⟨p,6,none⟩ ((.bool c.r.s))).setCell ⟨p,7,none⟩ ((.bool c.r.t))).setCell ⟨p,10,none⟩ (.bool c.st))=Y at KP MY ⊢
 have hop:=HO3.o.p0
 have hob:=HO3.o.b0
 have hog:=HO3.o.g2
 have hobl:=HO3.o.pb
 have hopl:=HO3.o.pl
 have hos:=HO3.o.d0
 have hos2:=HO3.o.d1
 have HYd:=hide (HD3.o.ai KP (by omega)).row
 have HYa:=hide (HA3.o.ai KP (by omega)).row
 have HYb:=hide (HO3.o.b.ai KP (by omega)).row
 have HYl:=hide ((gX HO3.o.l).ai KP (by omega)).row
 have KDY:=hide (ae (Kept.refl 0 0 Y))
 have HMY:=hide (MY.any KDY.o)
 have LY:=hide ((HL3.o.trans (qH KP (by omega) (by have:=HL3.o.size;omega))).drew)
 have HKY:=hide (dJ K0.o LY.o K0.o.size)
 have Dc:=hide (HB1.o.below LY.o (by have:=HXS.o;omega))
 have CX:=hide (HB2.o.below LY.o (by have:=HXS.o;omega))
 have HN1:Hid (¬(w.heap.size+1≤p∧p<w.heap.size+1+1)):=hide (by have:=HXS.o;omega)
 have HN2:Hid (¬(w.heap.size+1+1≤p∧p<w.heap.size+1+1+1)):=hide (by have:=HXS.o;omega)
 have CF:∀W:World,MB W p gd' cd' ga' ca' g1 c1 g3 c2 {(((Pl.Mc.ofC c).fetch.vec 8).dB c.r) with st:=c.st}→W.cell? ⟨p,11,none⟩=some (iv ((Pl.Mc.ofC c).fetch.vec 8).f.v)∧W.cell? ⟨p,12,none⟩=some (iv ((Pl.Mc.ofC c).fetch.vec 8).f.pc)∧W.cell? ⟨p,13,none⟩=some (iv ((Pl.Mc.ofC c).fetch.vec 8).f.ad)∧W.cell? ⟨p,14,none⟩=some (iv ((Pl.Mc.ofC c).fetch.vec 8).f.wo)∧W.cell? ⟨p,15,none⟩=some (.bool ((Pl.Mc.ofC c).fetch.vec 8).f.wr):=fun W h=>by have z:=yO h;exact z
 have SY:=CF _ HMY.o
 have hyz:X.heap.size≤Y.drew.heap.size:=LY.o.size
 clear KP MY
 go_region_held3 (fun w'=>w'.cell? ⟨p,11,none⟩=some (iv ((Pl.Mc.ofC c).fetch.vec 8).f.v)∧w'.cell? ⟨p,12,none⟩=some (iv ((Pl.Mc.ofC c).fetch.vec 8).f.pc)∧w'.cell? ⟨p,13,none⟩=some (iv ((Pl.Mc.ofC c).fetch.vec 8).f.ad)∧w'.cell? ⟨p,14,none⟩=some (iv ((Pl.Mc.ofC c).fetch.vec 8).f.wo)∧w'.cell? ⟨p,15,none⟩=some (.bool ((Pl.Mc.ofC c).fetch.vec 8).f.wr)) (first|with_reducible exact SY|with_reducible exact S4|with_reducible exact CF _ (HM4.o.pO HN1.o _ _ _ _ _ _ _ _ _ _ _ _)|with_reducible exact CF _ ((HM4.o.pO HN1.o _ _ _ _ _ _ _ _ _ _ _ _).Dv HN2.o _ _ _ _ _)|go_keep) (first|(go_at_call 71;refine (zK _ p gd' cd' ga' ca' g1 c1 g3 c2 {(((Pl.Mc.ofC c).fetch.vec 8).dB c.r) with st:=c.st} HMY.o (HYd.o.ai KDY.o) (HYa.o.ai KDY.o) (HYb.o.ai KDY.o) (HYl.o.ai KDY.o) h4 h5 HGf.o.bx HGf.o.bl HGf.o.bm).mono ?_;unfold jE;rintro e9 W4 ⟨gd4,cd4,ga4,ca4,g14,c14,g24,c24,mid4,rfl,hc9,k9⟩;have HC:=hide hc9;have HM4:=hide (HMY.o.any k9);have S4:=CF _ HM4.o;have HK4:=hide (HKY.o.trans k9);have aN:=hide (Dc.o.af k9);have dI:=hide (CX.o.af k9);have hs4:=dI.o.lt;clear hc9 k9;have o0:=aN.o.cell (i:=0) rfl;have of0:=aN.o.frozen 0;have o1:=aN.o.cell (i:=1) rfl;have of1:=aN.o.frozen 1;have o2:=aN.o.cell (i:=2) rfl;have of2:=aN.o.frozen 2;have o3:=aN.o.cell (i:=3) rfl;have of3:=aN.o.frozen 3;have o4:=aN.o.cell (i:=4) rfl;have of4:=aN.o.frozen 4;have o5:=aN.o.cell (i:=5) rfl;have of5:=aN.o.frozen 5;have o6:=aN.o.cell (i:=6) rfl;have of6:=aN.o.frozen 6;have o7:=aN.o.cell (i:=7) rfl;have of7:=aN.o.frozen 7;have o8:=aN.o.cell (i:=8) rfl;have of8:=aN.o.frozen 8;have o9:=aN.o.cell (i:=9) rfl;have of9:=aN.o.frozen 9;have o10:=aN.o.cell (i:=10) rfl;have of10:=aN.o.frozen 10;have o11:=aN.o.cell (i:=11) rfl;have of11:=aN.o.frozen 11;have y0:=dI.o.cell (i:=0) rfl;have yf0:=dI.o.frozen 0;have y1:=dI.o.cell (i:=1) rfl;have yf1:=dI.o.frozen 1;have y2:=dI.o.cell (i:=2) rfl;have yf2:=dI.o.frozen 2;have y3:=dI.o.cell (i:=3) rfl;have yf3:=dI.o.frozen 3;have y4:=dI.o.cell (i:=4) rfl;have yf4:=dI.o.frozen 4))
 go_wp2_with fail
 have hxs:=HXS.o
 refine bodyPost_ret (v:=.tuple #[.agg (jE (Pl.au c) gd4 cd4 ga4 ca4 g14 c14 g24 c24),.agg (ftC (Pl.dh c))]) ?_ rfl ⟨gd4,cd4,ga4,ca4,g14,c14,g24,c24,mid4,rfl,?co,?kw⟩
 case co=>
  rw [EC.o]
  refine HC.o.xm (x:=w.heap.size+1) (y:=w.heap.size+3) (by omega) (by omega) ?_
  repeat (first|with_reducible exact Kept.refl _ _ _|refine ag ?_ _ _ _ (.inl (by omega)))
 case kw=>repeat (first|with_reducible exact HK4.o|refine ag ?_ _ _ _ (.inr (by omega)))
 rw [iD rfl,EC.o,EF.o];go_simp;exact ⟨rfl,rfl⟩
end Go.Proofs.YtkkmnnhaailkcaaGreatDoor
namespace Go.Proofs.YtkkmnnhaailkcaaGreatDoor.Pl
set_option linter.unusedVariables false
theorem LH {z f a b:Int} (ha:okv z a=true) (hb:okv z b=true) (hf:flags f=true):0≤oK z f a b∧oK z f a b≤31:=by
 obtain ⟨f0,f1⟩:=rU hf
 obtain ⟨j,hj,rfl⟩:=lZ (n:=32) f0 (by omega)
 have hs:=lI z 0 a b
 obtain ⟨i,hi,he⟩:=lZ (n:=32) hs.1 (by omega)
 unfold oK
 rw [if_pos (by rw [uU ha hb,hf];rfl),he]
 have q:∀i:Nat,i<32→∀j:Nat,j<32→0≤bits .or .i64 (bits .and .i64 (i:Int) 15) (bits .and .i64 (j:Int) 16)∧bits .or .i64 (bits .and .i64 (i:Int) 15) (bits .and .i64 (j:Int) 16)≤31:=by decide +kernel
 exact q i hi j hj
theorem GM.two {c:Mc} (h:GM c) {x:In} (B:InB x) (h1:x.m=1→x.z=2):GM (c.two x):=by
 have hr:=h.read (m:=x.m) B.z B.k0 B.k1 B.e0 B.e1
 have hv:=dC h B.z B.k0 B.k1 B.e0 B.e1 h1 B.n7
 have hq:=fP hr B.z B.r0 B.r1
 unfold Mc.two
 cases (c.read x.z x.m x.k x.e).fine
 ·exact hr
 ·show GM (Mc.two' _ x _ _)
  unfold Mc.two'
  have c8:=LH hq hv (bI hr)
  have a3:=yV x.z 0 ((c.read x.z x.m x.k x.e).low x.z x.r) (c.bf x.z x.m x.k x.e)
  have s4:=lI x.z 0 ((c.read x.z x.m x.k x.e).low x.z x.r) (c.bf x.z x.m x.k x.e)
  have bb:=mX hq hv
  cases x.op==8
  ·cases x.op==3
   ·cases x.op==4
    ·cases x.op==5
     ·cases x.op==6
      ·cases x.op==7
       ·exact hr.data B.r0 B.r1 hv
       ·exact hr.data B.r0 B.r1 bb.2.2
      ·exact hr.data B.r0 B.r1 bb.2.1
     ·exact hr.data B.r0 B.r1 bb.1
    ·exact (hr.aF s4.1 s4.2).put B.r0 B.r1 (mW B.z)
   ·exact (hr.aF a3.1 a3.2).put B.r0 B.r1 (vJ hq)
  ·exact hr.aF c8.1 c8.2
theorem mV {c:Mc} (h:GM c) {z m k e:Int} (k0:0≤k) (k1:k≤3) (e0:0≤e) (e1:e≤65535):0≤c.readA z m k e∧c.readA z m k e≤65535:=by
 unfold Mc.readA
 cases Mc.gU m
 ·exact iT h.g k0 k1 e0 e1
 ·exact ⟨Int.le_refl 0,(by decide:(0:Int)≤65535)⟩
theorem GM.one {c:Mc} (h:GM c) {x:In} (B:InB x) (hm:x.m≠1):GM (c.one x):=by
 have hr:=h.read (m:=x.m) B.z B.k0 B.k1 B.e0 B.e1
 have hv:=dC h B.z B.k0 B.k1 B.e0 B.e1 (fun q=>absurd q hm) B.n7
 have ha:=mV (m:=x.m) (z:=x.z) h B.k0 B.k1 B.e0 B.e1
 have hp:=qw (m:=x.m) (z:=x.z) h B.k0 B.k1 B.e0 B.e1
 have z0:okv x.z 0=true:=by rcases B.z with q|q<;>rw [q]<;>decide
 have ht:=aQ hv
 have hn:okv x.z (top x.z-1-c.bf x.z x.m x.k x.e)=true:=by
  unfold okv;simp only [Bool.and_eq_true,Bool.or_eq_true,decide_eq_true_eq];exact ⟨B.z,by omega,by omega⟩
 have f0:=eG x.z c.r.f 0 z0 (bI h)
 have f1:=eG x.z c.r.f _ hv (bI h)
 have f2:=eG x.z c.r.f _ hn (bI h)
 have fs:=lI x.z 0 0 (c.bf x.z x.m x.k x.e)
 unfold Mc.one
 cases x.s==0
 ·cases (c.read x.z x.m x.k x.e).fine
  ·exact hr
  ·show GM (Mc.one' c _ x _ _)
   unfold Mc.one'
   cases x.s==1
   ·cases x.s==2
    ·exact hr.aF f1.1 f1.2
    ·exact (hr.write B.k0 B.k1 ha.1 ha.2 hn).aF f2.1 f2.2
   ·exact (hr.write B.k0 B.k1 ha.1 ha.2 (mW B.z)).aF fs.1 fs.2
 ·exact ((h.place B.k0 B.k1).write B.k0 B.k1 hp.1 hp.2 z0).aF f0.1 f0.2
theorem Dx (v:Int):okv 2 (lW v)=true:=by
 unfold lW;split
 ·rename_i q;have:=aQ q;simp [okv,top];omega
 ·simp [okv,top]
theorem Dz (v:Int):okv 2 (ni v)=true:=by
 unfold ni;split
 ·simp [okv,top];omega
 ·simp [okv,top]
theorem GM.iH {c:Mc} (h:GM c) {x:In} (B:InB x):GM (c.iH x):=by
 have hp:=kM h
 have hp2:=kM h.pop
 unfold Mc.iH
 cases x.s==0
 ·cases x.s==1
  ·cases x.s==3
   ·cases x.s==4
    ·cases x.s==5
     ·cases x.s==6
      ·exact h
      ·exact h.data B.r0 B.r1 (Dz _)
     ·exact h.data B.r0 B.r1 (Dx _)
    ·exact h.ft _
   ·exact ⟨(h.with x.e).g,(h.with x.e).p0,(h.with x.e).p1,h.bx,h.ok,h.bl,h.bm,h.ac⟩
  ·show GM (bif !c.pop.fine then c.pop else bif !c.pop.pop.fine then c.pop.pop else (c.pop.pop.aK c.pop.eu).dB (bQ (c.pop.pop.aK c.pop.eu).r (c.eu%1024)))
   cases c.pop.fine
   ·exact h.pop
   ·cases c.pop.pop.fine
    ·exact h.pop.pop
    ·exact (h.pop.pop.aK hp2.1 hp2.2).with _
 ·exact h.pop.aK hp.1 hp.2
theorem SA {f:Int} (b:Bool) (h:flags f=true):0≤bits .or .i64 f (fl b 2)∧bits .or .i64 f (fl b 2)≤31:=by
 obtain ⟨f0,f1⟩:=rU h
 obtain ⟨j,hj,rfl⟩:=lZ (n:=32) f0 (by omega)
 have q:∀j:Nat,j<32→∀b:Bool,0≤bits .or .i64 (j:Int) (fl b 2)∧bits .or .i64 (j:Int) (fl b 2)≤31:=by decide +kernel
 exact q j hj b
theorem GM.product {c:Mc} (h:GM c) {x:In} (B:InB x):GM (c.product x):=by
 have e2:okv 2 x.e=true:=by have:=B.e0;have:=B.e1;simp [okv,top];omega
 have hr:=h.read (z:=2) (m:=x.m) (.inr rfl) B.k0 B.k1 B.e0 B.e1
 have hv:=G8 (dC (z:=2) (m:=x.m) h (.inr rfl) B.k0 B.k1 B.e0 B.e1 (fun _=>rfl) (fun _=>e2))
 have hd:=hr.g.dw x.r.toNat (by have:=B.r0;have:=B.r1;omega)
 unfold Mc.product
 cases (c.read 2 x.m x.k x.e).fine
 ·exact hr
 ·show GM (Mc.jr _ x _)
  unfold Mc.jr
  cases x.op==16
  ·cases q:(c.bf 2 x.m x.k x.e==0)
   ·refine hr.data B.r0 B.r1 ?_
    have h0:0≤el (c.read 2 x.m x.k x.e).r.xs x.r.toNat/c.bf 2 x.m x.k x.e:=Int.ediv_nonneg hd.1 hv.1
    have h1:=Int.le_trans (Int.ediv_le_self (c.bf 2 x.m x.k x.e) hd.1) hd.2
    generalize el (c.read 2 x.m x.k x.e).r.xs x.r.toNat/c.bf 2 x.m x.k x.e=N at h0 h1
    simp [okv,top];omega
   ·exact hr.ft _
  ·show GM (Mc.IY _ x _)
   unfold Mc.IY
   generalize el (c.read 2 x.m x.k x.e).r.xs x.r.toNat*c.bf 2 x.m x.k x.e=Q
   have g:=hr.data (z:=2) (v:=Q%65536) B.r0 B.r1 (by simp [okv,top];omega)
   have o:=SA (decide (65535<Q)) (bI g)
   exact g.aF o.1 o.2
theorem GM.jB {c:Mc} (h:GM c) {x:In} (B:InB x):GM (c.jB x):=by
 unfold Mc.jB
 generalize el c.r.xs x.r.toNat%256=a
 generalize el c.r.xs x.k.toNat%256=b
 unfold Mc.kR
 cases ha:bcd a
 ·exact h.ft _
 ·cases hb:bcd b
  ·exact h.ft _
  ·have h2:fF c.xOf a b=true:=lH (by unfold Mc.xOf;omega) (by unfold Mc.xOf;omega) ha hb
   have hc:0≤c.lU x.s a b∧c.lU x.s a b≤1:=by
    unfold Mc.lU;cases x.s==1
    ·exact Ar c.xOf a b
    ·exact Dp c.xOf a b
   have hv:okv 1 (c.kK x.s a b)=true:=by
    unfold Mc.kK;cases x.s==1
    ·exact qy (yX h2)
    ·exact qy (xO h2)
   have hf:0≤c.nD x.s a b∧c.nD x.s a b≤31:=by
    unfold Mc.nD fl;split<;>omega
   exact (h.aF hf.1 hf.2).put B.r0 B.r1 hv
theorem GM.jump {c:Mc} (h:GM c) {x:In} (B:InB x) (t:Int):GM (c.jump x t):=by
 have hp:=h.place (z:=2) (m:=x.m) (e:=x.e) B.k0 B.k1
 have ha:=qw (m:=x.m) (z:=2) h B.k0 B.k1 B.e0 B.e1
 have hu:=hp.push h.p0 h.p1
 unfold Mc.jump
 cases x.op==13
 ·cases x.s==1
  ·exact hp.aK ha.1 ha.2
  ·show GM (bif _ then _ else _)
   cases ((c.place 2 x.m x.k x.e).push c.r.p).fine
   ·exact hu
   ·exact hu.aK ha.1 ha.2
 ·show GM (bif _ then _ else _)
  cases tst (x.s+8*x.r) c.r.f
  ·exact h
  ·exact h.aK (by omega) (by omega)
theorem GM.doI {c:Mc} (h:GM c) {x:In} (hx:dH x=true) (t:Int):GM (c.doI x t):=by
 have B:=vS hx
 have hrd:=h.read (z:=2) (m:=x.m) (.inr rfl) B.k0 B.k1 B.e0 B.e1
 have e2:okv 2 x.e=true:=by have:=B.e0;have:=B.e1;simp [okv,top];omega
 have hv:=G8 (dC (z:=2) (m:=x.m) h (.inr rfl) B.k0 B.k1 B.e0 B.e1 (fun _=>rfl) (fun _=>e2))
 have hp:=h.place (z:=2) (m:=x.m) (e:=x.e) B.k0 B.k1
 have ha:=qw (m:=x.m) (z:=2) h B.k0 B.k1 B.e0 B.e1
 have hq:=fP h B.z B.r0 B.r1
 unfold Mc.doI
 cases q9:(x.op==9)
 ·cases q10:(x.op==10)
  ·cases q2:(x.op==2)
   ·cases q11:(x.op==11)
    ·cases q12:(x.op==12)
     ·cases q13:((x.op==13)||(x.op==14))
      ·cases q15:(x.op==15)
       ·cases q16:((x.op==16)||(x.op==17))
        ·cases q18:(x.op==18)
         ·cases q19:(x.op==19)
          ·refine h.two B ?_
           simp only [dH,Bool.and_eq_true] at hx
           have hk:=hx.2
           unfold ay at hk
           cases e1:((x.op==1)||((x.op==3)||((x.op==4)||((x.op==5)||((x.op==6)||((x.op==7)||(x.op==8)))))))
           ·simp only [Bool.or_eq_false_iff] at q13 q16
            rw [e1,q2,q9,q10,q11,q12,q13.1,q13.2,q16.1,q16.2,q18,q19,q15] at hk
            cases hk
           ·rw [e1] at hk
            intro q
            simp [q] at hk
            exact hk.2
          ·show GM (c.stat x)
           unfold Mc.stat
           cases x.s==0
           ·have st:=xg h.g
            exact h.dB (h.g.NL x.r.toNat st.1 (by omega)) ⟨h.p0,h.p1⟩
           ·exact h.with x.e
         ·exact h.jB B
        ·exact h.product B
       ·exact h.iH B
      ·exact h.jump B t
     ·have g:=Cj hq h.g.f0 h.g.f1 x.s B.s0 B.s1
      have ft:=(qh g).2.2.2.2.2
      have k0:=B.k0
      have k1:=B.k1
      have ob:qM x.s x.z c.r.f (c.low x.z x.r) (x.k+1)=true:=by unfold qM cnt;rw [g];simp;omega
      have fb:=Me (k:=x.s) ft (x.k+1).toNat
      have vb:=oZ (k:=x.s) ft (x.k+1).toNat
      show GM ((c.aF (oL x.s x.z c.r.f (c.low x.z x.r) (x.k+1))).put x.z x.r (jg x.s x.z c.r.f (c.low x.z x.r) (x.k+1)))
      unfold oL jg
      rw [if_pos ob,if_pos ob]
      refine (h.aF fb.1 fb.2.1).put B.r0 B.r1 ?_
      obtain ⟨v1,v2,v3,_⟩:=vb
      unfold okv;simp only [Bool.and_eq_true,Bool.or_eq_true,decide_eq_true_eq];exact ⟨v1,v2,v3⟩
    ·refine h.one B ?_
     simp only [dH,Bool.and_eq_true] at hx
     have hk:=hx.2
     have e:x.op=11:=by simpa using q11
     unfold ay at hk
     simp [e] at hk
     have:=GU hk.2
     omega
   ·have hp2:=qw (m:=x.m) (z:=x.z) h B.k0 B.k1 B.e0 B.e1
    have f1:=eG x.z c.r.f _ hq (bI h)
    exact (((h.place B.k0 B.k1).write B.k0 B.k1 hp2.1 hp2.2 hq).aF f1.1 f1.2)
  ·exact hp.fU _ ha.1 ha.2
 ·show GM (bif _ then _ else _)
  cases (c.read 2 x.m x.k x.e).fine
  ·exact hrd
  ·exact hrd.fU _ hv.1 hv.2
end Go.Proofs.YtkkmnnhaailkcaaGreatDoor.Pl
