/- Part 5 of what the last text leans on. -/
import Derived.Test.YtgikibaajanjiaaGreatDoorJD4
import Derived.Test.YtgikibaajanjiaaGreatDoorJD3
import Derived.Deep.RegionHeld3
import Derived.Laws.Tables
set_option maxRecDepth 100000
set_option maxHeartbeats 16000000
namespace Go.Proofs.YtgikibaajanjiaaGreatDoor
open Pl
open Go.RowKit Go.Proofs.Tryz
set_option linter.unusedVariables false
theorem XW (w:World) (a b:Option Addr) (ca cb m:Nat) (xs ys:List Int) (ha:aF w a xs) (hb:aF w b ys) (lx:xs.length<=2000000) (ly:ys.length=5*m) (bm:m<=2000000) (x0:0<xs.length) :
  Calls prog 130 #[.agg #[.slice a xs.length ca,.slice b m cb]] w fun e w'=>∃(g1 c1 g2 c2:Nat),e=.returned (.agg #[.slice (some (abb g1 0)) xs.length c1,.slice (some (abb g2 0)) m c2])/\w'.ownsRow w.heap.size 3 1 (.slice (some (abb g1 0)) xs.length c1) xs.length (xs.map (Value.int .i64))/\w'.ownsRow w.heap.size 179 5 (.slice (some (abb g2 0)) m c2) m (ys.map (Value.int .i64))/\g1≠g2/\Kept 0 0 w w':=by
 obtain⟨ga,oa,rfl,_⟩:=ha 0 x0;by_cases h0:m=0
 ·subst h0;obtain rfl:ys=[]:=List.eq_nil_of_length_eq_zero (by omega);cases b with
  | none=>exact Gz w ga oa ca cb xs ha lx x0
  | some ad=>exact CU w ga oa ad.block ad.off ad.spot ca cb xs ha lx x0
 ·obtain⟨gb,ob,rfl,_⟩:=hb 0 (by omega);refine(GG w ga oa gb ob ca cb m xs ys ha hb lx ly bm x0 (by omega)).mono ?_;rintro e w'⟨g1,c1,g2,c2,rfl,o1,o2,hl,kk⟩;exact⟨g1,c1,g2,c2,rfl,o1,o2,by omega,kk⟩
def eP (c:Cp) (gd cd ga ca g1 c1 g2 c2:Nat):Array Value:=#[.slice (some (abb gd 0)) 4 cd,.slice (some (abb ga 0)) 4 ca,iv c.r.o,iv c.r.p,iv c.r.f,iv c.r.m,.bool c.r.s,.bool c.r.t,.slice (some (abb g1 0)) 512 c1,.slice (some (abb g2 0)) c.bm c2,.bool c.st,.bool c.ha]
structure CO (w:World) (lo mid:Nat) (c:Cp) (gd ga g1 g2 c2:Nat):Prop where
 d:Own w gd c.r.xs
 a:Own w ga c.r.ys
 b:Own w g1 c.bx
 l:w.ownsRow mid 179 5 (.slice (some (abb g2 0)) c.bm c2) c.bm (c.bl.map (Value.int .i64))
 d0:lo<=gd
 d1:gd<mid
 a0:lo<=ga
 a1:ga<mid
 da:gd≠ga
 b0:mid<=g1
 b1:g1<w.heap.size
 bl:g1≠g2
theorem CO.any {w w':World} {lo mid gd ga g1 g2 c2:Nat} {c:Cp} (h:CO w lo mid c gd ga g1 g2 c2) (k:Kept 0 0 w w'):CO w' lo mid c gd ga g1 g2 c2:=
 ⟨h.d.ag k (by omega),h.a.ag k (by omega),h.b.ag k (by omega),bg h.l k (by omega),h.d0,h.d1,h.a0,h.a1,h.da,h.b0,Nat.lt_of_lt_of_le h.b1 k.size,h.bl⟩
theorem ui {w:World} {lo hi:Nat} {a:Option Addr} {xs:List Int} (h:aK w lo hi a xs) (hx:0<xs.length):∃g,a=some (abb g 0)/\lo<=g/\g<hi/\Own w g xs:=by
 rcases h with⟨_,e⟩|h
 ·rw[e]at hx;exact absurd hx (Nat.lt_irrefl 0)
 ·exact h
theorem own4 (w:World) (r:Rg) (a b:Option Addr) (ca cb:Nat) (ha:aF w a r.xs) (hb:aF w b r.ys) (h4:r.xs.length=4) (h5:r.ys.length=4) :
  Calls prog 114 #[.agg #[.slice a 4 ca,.slice b 4 cb,iv r.o,iv r.p,iv r.f,iv r.m,.bool r.s,.bool r.t]] w fun e w'=>∃gd cd ga cA:Nat,e=.returned (jK r gd cd ga cA)/\Own w' gd r.xs/\Own w' ga r.ys/\w.heap.size<=gd/\gd<w'.heap.size/\w.heap.size<=ga/\ga<w'.heap.size/\gd≠ga/\Kept 0 0 w w':=by
 have h:=OT w r a b ca cb ha hb (by omega) (by omega);rw[h4,h5]at h;refine h.mono ?_;rintro e w'⟨a',b',ca',cb',rfl,⟨s1,s2,s3⟩,k⟩;obtain⟨gd,rfl,d0,d1,od⟩:=ui s1 (by omega);obtain⟨ga,rfl,a0,a1,oa⟩:=ui s2 (by omega);exact⟨gd,ca',ga,cb',rfl,od,oa,d0,d1,a0,a1,fun q=>s3 gd rfl (by rw[q];rfl),k⟩
theorem aaA (w:World) (a b:Option Addr) (ca cb m:Nat) (xs ys:List Int) (ha:aF w a xs) (hb:aF w b ys) (lx:xs.length=512) (ly:ys.length=5*m) (bm:m<=400) :
  Calls prog 130 #[.agg #[.slice a 512 ca,.slice b m cb]] w fun e w'=>∃g1 c1 g2 c2:Nat,e=.returned (.agg #[.slice (some (abb g1 0)) 512 c1,.slice (some (abb g2 0)) m c2])/\Own w' g1 xs/\w'.ownsRow w.heap.size 179 5 (.slice (some (abb g2 0)) m c2) m (ys.map (Value.int .i64))/\w.heap.size<=g1/\g1<w'.heap.size/\g1≠g2/\Kept 0 0 w w':=by
 have h:=XW w a b ca cb m xs ys ha hb (by omega) ly (by omega) (by omega);rw[lx]at h;refine h.mono ?_;rintro e w'⟨g1,c1,g2,c2,rfl,o1,o2,hn,k⟩;have q:=o1.lt g1 rfl;have e1:=iZ (xs:=xs) (by rw[<-lx]at o1;exact lx ▸ o1);exact⟨g1,c1,g2,c2,rfl,e1,o2,q.1,q.2,hn,k⟩
theorem Xk (a0 a1 a2 a3 a4 a5 a6 a7 a8 a9 a10 a11 v:Value):(#[a0,a1,a2,a3,a4,a5,a6,a7,a8,a9,a10,a11]:Array Value).setIfInBounds 0 v=#[v,a1,a2,a3,a4,a5,a6,a7,a8,a9,a10,a11]:=rfl
theorem Xj (a0 a1 a2 a3 a4 a5 a6 a7 a8 a9 a10 a11 v:Value):(#[a0,a1,a2,a3,a4,a5,a6,a7,a8,a9,a10,a11]:Array Value).setIfInBounds 1 v=#[a0,v,a2,a3,a4,a5,a6,a7,a8,a9,a10,a11]:=rfl
theorem Xi (a0 a1 a2 a3 a4 a5 a6 a7 a8 a9 a10 a11 v:Value):(#[a0,a1,a2,a3,a4,a5,a6,a7,a8,a9,a10,a11]:Array Value).setIfInBounds 2 v=#[a0,a1,v,a3,a4,a5,a6,a7,a8,a9,a10,a11]:=rfl
theorem Xh (a0 a1 a2 a3 a4 a5 a6 a7 a8 a9 a10 a11 v:Value):(#[a0,a1,a2,a3,a4,a5,a6,a7,a8,a9,a10,a11]:Array Value).setIfInBounds 3 v=#[a0,a1,a2,v,a4,a5,a6,a7,a8,a9,a10,a11]:=rfl
theorem Xg (a0 a1 a2 a3 a4 a5 a6 a7 a8 a9 a10 a11 v:Value):(#[a0,a1,a2,a3,a4,a5,a6,a7,a8,a9,a10,a11]:Array Value).setIfInBounds 4 v=#[a0,a1,a2,a3,v,a5,a6,a7,a8,a9,a10,a11]:=rfl
theorem Xf (a0 a1 a2 a3 a4 a5 a6 a7 a8 a9 a10 a11 v:Value):(#[a0,a1,a2,a3,a4,a5,a6,a7,a8,a9,a10,a11]:Array Value).setIfInBounds 5 v=#[a0,a1,a2,a3,a4,v,a6,a7,a8,a9,a10,a11]:=rfl
theorem Xe (a0 a1 a2 a3 a4 a5 a6 a7 a8 a9 a10 a11 v:Value):(#[a0,a1,a2,a3,a4,a5,a6,a7,a8,a9,a10,a11]:Array Value).setIfInBounds 6 v=#[a0,a1,a2,a3,a4,a5,v,a7,a8,a9,a10,a11]:=rfl
theorem Xd (a0 a1 a2 a3 a4 a5 a6 a7 a8 a9 a10 a11 v:Value):(#[a0,a1,a2,a3,a4,a5,a6,a7,a8,a9,a10,a11]:Array Value).setIfInBounds 7 v=#[a0,a1,a2,a3,a4,a5,a6,v,a8,a9,a10,a11]:=rfl
theorem CO.over {w w':World} {b mid gd ga g1 g2 c2:Nat} {c:Cp} (h:CO w (b+2) mid c gd ga g1 g2 c2) (k:Kept b (b+2) w w'):CO w' b mid c gd ga g1 g2 c2:=by
 have q:=h.l.lt g2 rfl;have:=h.d0;have:=h.d1;have:=h.b0;have:=h.a0;have:=h.a1;exact⟨h.d.ag k (by omega),h.a.ag k (by omega),h.b.ag k (by omega),bg h.l k (by omega),by omega,h.d1,by omega,h.a1,h.da,h.b0,Nat.lt_of_lt_of_le h.b1 k.size,h.bl⟩
theorem UO (w:World) (c:Cp) (a b e q:Option Addr) (ca cb ce cq:Nat) (ha:aF w a c.r.xs) (hb:aF w b c.r.ys) (he:aF w e c.bx) (hq:aF w q c.bl) (h4:c.r.xs.length=4) (h5:c.r.ys.length=4) (hx:c.bx.length=512) (hl:c.bl.length=5*c.bm) (hm:c.bm<=400) :
  Calls prog 76 #[.agg #[.slice a 4 ca,.slice b 4 cb,iv c.r.o,iv c.r.p,iv c.r.f,iv c.r.m,.bool c.r.s,.bool c.r.t,.slice e 512 ce,.slice q c.bm cq,.bool c.st,.bool c.ha]] w fun r w'=>∃gd cd ga cA g1 c1 g2 c2 mid:Nat,r=.returned (.agg (eP c gd cd ga cA g1 c1 g2 c2))/\CO w' w.heap.size mid c gd ga g1 g2 c2/\Kept 0 0 w w':=by
 have K0:=aba (ah (kept_alloc w (.cells #[.slice a 4 ca,.slice b 4 cb,iv c.r.o,iv c.r.p,iv c.r.f,iv c.r.m,.bool c.r.s,.bool c.r.t,.slice e 512 ce,.slice q c.bm cq,.bool c.st,.bool c.ha] 40)) (.cells cpZ 40));have BA:=(Blk.new w #[.slice a 4 ca,.slice b 4 cb,iv c.r.o,iv c.r.p,iv c.r.f,iv c.r.m,.bool c.r.s,.bool c.r.t,.slice e 512 ce,.slice q c.bm cq,.bool c.st,.bool c.ha] 40).alloc (.cells cpZ 40);have BO:=Blk.new (w.alloc (.cells #[.slice a 4 ca,.slice b 4 cb,iv c.r.o,iv c.r.p,iv c.r.f,iv c.r.m,.bool c.r.s,.bool c.r.t,.slice e 512 ce,.slice q c.bm cq,.bool c.st,.bool c.ha] 40)) cpZ 40;simp only[World.size_alloc]at BO;obtain⟨X,hX⟩:∃X:World,(w.alloc (.cells #[.slice a 4 ca,.slice b 4 cb,iv c.r.o,iv c.r.p,iv c.r.f,iv c.r.m,.bool c.r.s,.bool c.r.t,.slice e 512 ce,.slice q c.bm cq,.bool c.st,.bool c.ha] 40)).alloc (.cells cpZ 40)=X:=⟨_,rfl⟩
 rw[hX]at K0 BA BO;have HBA:=aba BA;have HBO:=aba BO;have HA:=aba (ha.ag K0.o);have HB:=aba (hb.ag K0.o);have HE:=aba he;have HQ:=aba hq;have hxs:=K0.o.size;clear BA BO ha hb he hq;have i0:=HBA.o.all;have if0:=HBA.o.fz;go_enter func76,ntmps76;go_wp2_with (go_at_call 114;refine(own4 _ c.r a b ca cb HA.o HB.o h4 h5).mono ?_;unfold jK;rintro e9 W1⟨gd,cd,ga,cA,rfl,od,oa,d0,d1,a0,a1,da,k9⟩;have HD1:=aba od;have HA1:=aba oa;have K1:=aba (K0.o.trans k9);have HI1:=aba (HBA.o.ae k9);have HO1:=aba (HBO.o.ae k9);clear k9 od oa i0 if0;have i0:=HI1.o.cell (i:=0) rfl;have if0:=HI1.o.frozen 0;have i1:=HI1.o.cell (i:=1) rfl;have if1:=HI1.o.frozen 1;have i2:=HI1.o.cell (i:=2) rfl;have if2:=HI1.o.frozen 2;have i3:=HI1.o.cell (i:=3) rfl;have if3:=HI1.o.frozen 3;have i4:=HI1.o.cell (i:=4) rfl;have if4:=HI1.o.frozen 4;have i5:=HI1.o.cell (i:=5) rfl;have if5:=HI1.o.frozen 5;have i6:=HI1.o.cell (i:=6) rfl;have if6:=HI1.o.frozen 6;have i7:=HI1.o.cell (i:=7) rfl;have if7:=HI1.o.frozen 7;have i8:=HI1.o.cell (i:=8) rfl;have if8:=HI1.o.frozen 8;have i9:=HI1.o.cell (i:=9) rfl;have if9:=HI1.o.frozen 9;have i10:=HI1.o.cell (i:=10) rfl;have if10:=HI1.o.frozen 10;have i11:=HI1.o.cell (i:=11) rfl;have if11:=HI1.o.frozen 11);have K8:=MB.lN (w:=W1) (p:=w.heap.size) (.slice (some (abb gd 0)) 4 cd) (.slice (some (abb ga 0)) 4 cA) (iv c.r.o) (iv c.r.p) (iv c.r.f) (iv c.r.m) (.bool c.r.s) (.bool c.r.t)
 have HI2:Blk ((((((((W1.setCell (abb w.heap.size 0) (.slice (some (abb gd 0)) 4 cd)).setCell (abb w.heap.size 1) (.slice (some (abb ga 0)) 4 cA)).setCell (abb w.heap.size 2) (iv c.r.o)).setCell (abb w.heap.size 3) (iv c.r.p)).setCell (abb w.heap.size 4) (iv c.r.f)).setCell (abb w.heap.size 5) (iv c.r.m)).setCell (abb w.heap.size 6) (.bool c.r.s)).setCell (abb w.heap.size 7) (.bool c.r.t)) w.heap.size #[.slice (some (abb gd 0)) 4 cd,.slice (some (abb ga 0)) 4 cA,iv c.r.o,iv c.r.p,iv c.r.f,iv c.r.m,.bool c.r.s,.bool c.r.t,.slice e 512 ce,.slice q c.bm cq,.bool c.st,.bool c.ha] 40:=by
  have z:=(((((((HI1.o.set 0 (.slice (some (abb gd 0)) 4 cd)).set 1 (.slice (some (abb ga 0)) 4 cA)).set 2 (iv c.r.o)).set 3 (iv c.r.p)).set 4 (iv c.r.f)).set 5 (iv c.r.m)).set 6 (.bool c.r.s)).set 7 (.bool c.r.t);rw[Xk,Xj,Xi,Xh,Xg,Xf,Xe,Xd]at z;exact z
 generalize ((((((((W1.setCell (abb w.heap.size 0) (.slice (some (abb gd 0)) 4 cd)).setCell (abb w.heap.size 1) (.slice (some (abb ga 0)) 4 cA)).setCell (abb w.heap.size 2) (iv c.r.o)).setCell (abb w.heap.size 3) (iv c.r.p)).setCell (abb w.heap.size 4) (iv c.r.f)).setCell (abb w.heap.size 5) (iv c.r.m)).setCell (abb w.heap.size 6) (.bool c.r.s)).setCell (abb w.heap.size 7) (.bool c.r.t))=Y at K8 HI2 ⊢;have hX2:X.heap.size=w.heap.size+2:=by rw[<-hX];simp
 have ds:=K8.size;have KY:=aba (aB K1.o K8 (Nat.le_refl _));have HDY:=aba (HD1.o.ag K8 (by omega));have HAY:=aba (HA1.o.ag K8 (by omega));have HOY:=aba (Blk.kept HO1.o K8 (by omega));have HIY:=aba HI2;have HEY:=aba (HE.o.ag KY.o);have HQY:=aba (HQ.o.ag KY.o);have HX2:=aba hX2;have hs1:=HO1.o.lt;clear K8 HI2 hX2 hX i0 if0;have hdd:=HDY.o.lt (by rw[h4];decide);refine(aaA _ e q ce cq c.bm c.bx c.bl HEY.o HQY.o hx hl hm).mono ?_;rintro e9 W2⟨g1,c1,g2,c2,rfl,ob,ol,b0,b1,bn,k9⟩;have HCO:Hid (CO W2 (w.heap.size+2) Y.heap.size c gd ga g1 g2 c2):=aba ⟨HDY.o.ag k9 (by omega),HAY.o.ag k9 (by omega),ob,ol,by have:=HX2.o;omega,by omega,by have:=HX2.o;omega,by omega,da,b0,b1,bn⟩;have K2:=aba (KY.o.trans k9);have HI3:=aba (HIY.o.ae k9);have HO3:=aba (HOY.o.ae k9);have hs3:=HO3.o.lt;clear ob ol k9;have i0:=HI3.o.all;have if0:=HI3.o.fz;have o0:=HO3.o.all;have of0:=HO3.o.fz;go_wp2_with fail;refine bodyPost_ret (v:=.agg (eP c gd cd ga cA g1 c1 g2 c2)) ?_ rfl ⟨gd,cd,ga,cA,g1,c1,g2,c2,Y.heap.size,rfl,HCO.o.over ?kk,?kw⟩
 case kk=>repeat (first|with_reducible exact Kept.refl _ _ _|refine af ?_ _ _ _ (.inl (by omega)))
 case kw=>repeat (first|with_reducible exact K2.o|refine af ?_ _ _ _ (.inr (by omega)))
 rw[aj rfl];go_simp;rfl
theorem vP (w:World) (c:Cp) (a b e q:Option Addr) (ca cb ce cq:Nat) (ha:aF w a c.r.xs) (hb:aF w b c.r.ys) (he:aF w e c.bx) (hq:aF w q c.bl) (h4:c.r.xs.length=4) (h5:c.r.ys.length=4) (hx:c.bx.length=512) (hl:c.bl.length=5*c.bm) (hm:c.bm<=400) :
  Calls prog 109 #[.agg #[.slice a 4 ca,.slice b 4 cb,iv c.r.o,iv c.r.p,iv c.r.f,iv c.r.m,.bool c.r.s,.bool c.r.t,.slice e 512 ce,.slice q c.bm cq,.bool c.st,.bool c.ha]] w fun r w'=>∃mid p g2:Nat,r=.returned (.pointer (some (abb p 0)))/\MAt w' w.heap.size mid w'.heap.size p g2 (Mc.ofC c)/\w.heap.size<=p/\Kept 0 0 w w':=by
 have K0:=aba (kept_alloc w (.cells #[.slice a 4 ca,.slice b 4 cb,iv c.r.o,iv c.r.p,iv c.r.f,iv c.r.m,.bool c.r.s,.bool c.r.t,.slice e 512 ce,.slice q c.bm cq,.bool c.st,.bool c.ha] 40));have BA:=Blk.new w #[.slice a 4 ca,.slice b 4 cb,iv c.r.o,iv c.r.p,iv c.r.f,iv c.r.m,.bool c.r.s,.bool c.r.t,.slice e 512 ce,.slice q c.bm cq,.bool c.st,.bool c.ha] 40;obtain⟨X,hX⟩:∃X:World,w.alloc (.cells #[.slice a 4 ca,.slice b 4 cb,iv c.r.o,iv c.r.p,iv c.r.f,iv c.r.m,.bool c.r.s,.bool c.r.t,.slice e 512 ce,.slice q c.bm cq,.bool c.st,.bool c.ha] 40)=X:=⟨_,rfl⟩
 rw[hX]at K0 BA;have HBA:=aba BA;have HA:=aba (ha.ag K0.o);have HB:=aba (hb.ag K0.o);have HE:=aba (he.ag K0.o);have HQ:=aba (hq.ag K0.o);have hxs:=K0.o.size;clear BA ha hb he hq;have i0:=HBA.o.all;go_enter func109,ntmps109;go_wp2_with (go_at_call 76;refine(UO _ c a b e q ca cb ce cq HA.o HB.o HE.o HQ.o h4 h5 hx hl hm).mono ?_;unfold eP;rintro e9 W⟨gd,cd,ga,cA,g1,c1,g2,c2,mid,rfl,hc9,k9⟩;have HC:=aba hc9;have HK:=aba (K0.o.trans k9);have HKW:=aba k9;clear hc9 k9);go_ret;have hC1:=(HC.o.any (kept_alloc W (.cells #[.slice (some (abb gd 0)) 4 cd,.slice (some (abb ga 0)) 4 cA,iv c.r.o,iv c.r.p,iv c.r.f,iv c.r.m,.bool c.r.s,.bool c.r.t,.slice (some (abb g1 0)) 512 c1,.slice (some (abb g2 0)) c.bm c2,.bool c.st,.bool c.ha] 40)))
 have hBm:=Blk.new (W.alloc (.cells #[.slice (some (abb gd 0)) 4 cd,.slice (some (abb ga 0)) 4 cA,iv c.r.o,iv c.r.p,iv c.r.f,iv c.r.m,.bool c.r.s,.bool c.r.t,.slice (some (abb g1 0)) 512 c1,.slice (some (abb g2 0)) c.bm c2,.bool c.st,.bool c.ha] 40)) (jL (Mc.ofC c) gd cd ga cA g1 c1 g2 c2) 143;have hC2:=hC1.any (kept_alloc (W.alloc (.cells #[.slice (some (abb gd 0)) 4 cd,.slice (some (abb ga 0)) 4 cA,iv c.r.o,iv c.r.p,iv c.r.f,iv c.r.m,.bool c.r.s,.bool c.r.t,.slice (some (abb g1 0)) 512 c1,.slice (some (abb g2 0)) c.bm c2,.bool c.st,.bool c.ha] 40)) (.cells (jL (Mc.ofC c) gd cd ga cA g1 c1 g2 c2) 143));have hg2:=hC1.l.lt g2 rfl;have hsz:=HKW.o.size;have hd0:=HC.o.d0;have hd1:=HC.o.d1;have hb0:=HC.o.b0;have hb1:=HC.o.b1;have ha0:=HC.o.a0;simp only[World.size_alloc]at hBm hg2;refine⟨mid,W.heap.size+1,g2,rfl,⟨gd,cd,ga,cA,g1,c1,c2,hBm,⟨hC2.d,hC2.a,hC2.b,hC2.l,by omega,hC2.d1,by omega,hC2.a1,hC2.da,by omega,hC2.b0,by omega,by omega,by simp,by simp;omega,hC2.bl,Nat.le_refl _⟩⟩,by omega,ah (ah HK.o _) _⟩
theorem Le (w:World) (b:Nat) (v0 v1 v2 v3 v4 v5 v6 v7 v8 v9 v10 v11:Value):Kept b (b+1) w ((((((((((((w.setCell (abb b 0) v0).setCell (abb b 1) v1).setCell (abb b 2) v2).setCell (abb b 3) v3).setCell (abb b 4) v4).setCell (abb b 5) v5).setCell (abb b 6) v6).setCell (abb b 7) v7).setCell (abb b 8) v8).setCell (abb b 9) v9).setCell (abb b 10) v10).setCell (abb b 11) v11):=((((((((((((ak w b 0 v0).one 1 v1).one 2 v2).one 3 v3).one 4 v4).one 5 v5).one 6 v6).one 7 v7).one 8 v8).one 9 v9).one 10 v10).one 11 v11)
theorem CO.past {w w':World} {lo' lo b mid gd ga g1 g2 c2:Nat} {c:Cp} (h:CO w lo' mid c gd ga g1 g2 c2) (hl:b+1<=lo') (hb:lo<=b) (k:Kept b (b+1) w w'):CO w' lo mid c gd ga g1 g2 c2:=by
 have q:=h.l.lt g2 rfl;have:=h.d0;have:=h.d1;have:=h.b0;have:=h.a0;have:=h.a1;exact⟨h.d.ag k (by omega),h.a.ag k (by omega),h.b.ag k (by omega),bg h.l k (by omega),by omega,h.d1,by omega,h.a1,h.da,h.b0,Nat.lt_of_lt_of_le h.b1 k.size,h.bl⟩
theorem yT {W:World} {p gd cd ga ca g1 c1 g2 c2:Nat} {c:Mc} (hB:MB W p gd cd ga ca g1 c1 g2 c2 c):W.cell? (abb p 0)=some (.slice (some (abb gd 0)) 4 cd)/\W.cell? (abb p 1)=some (.slice (some (abb ga 0)) 4 ca)/\W.cell? (abb p 2)=some (iv c.r.o)/\W.cell? (abb p 3)=some (iv c.r.p)/\W.cell? (abb p 4)=some (iv c.r.f)/\W.cell? (abb p 5)=some (iv c.r.m)/\W.cell? (abb p 6)=some (.bool c.r.s)/\W.cell? (abb p 7)=some (.bool c.r.t)/\W.cell? (abb p 8)=some (.slice (some (abb g1 0)) 512 c1)/\W.cell? (abb p 9)=some (.slice (some (abb g2 0)) c.bm c2)/\W.cell? (abb p 10)=some (.bool c.st):=by
 obtain⟨t0,t1,t2,t3,t4,t5,t6,t7,t8,t9,t10,_⟩:=hB.cells;exact⟨t0,t1,t2,t3,t4,t5,t6,t7,t8,t9,t10⟩
theorem En (w:World) (p gd cd ga ca g1 c1 g2 c2:Nat) (c:Mc) (h:MB w p gd cd ga ca g1 c1 g2 c2 c) (rd:aF w (some (abb gd 0)) c.r.xs) (ra:aF w (some (abb ga 0)) c.r.ys) (rb:aF w (some (abb g1 0)) c.bx) (rl:aF w (some (abb g2 0)) c.bl) (h4:c.r.xs.length=4) (h5:c.r.ys.length=4) (hx:c.bx.length=512) (hl:c.bl.length=5*c.bm) (hm:c.bm<=400) :
  Calls prog 113 #[.pointer (some (abb p 0))] w fun r w'=>∃gd' cd' ga' cA' g1' c1' g2' c2' mid':Nat,r=.returned (.agg (eP (c.cpu false) gd' cd' ga' cA' g1' c1' g2' c2'))/\CO w' w.heap.size mid' (c.cpu false) gd' ga' g1' g2' c2'/\Kept 0 0 w w':=by
 have K0:=aba (kept_alloc w (.cells cpZ 40));have BA:=Blk.new w cpZ 40;have hpw:p<w.heap.size:=h.lt;obtain⟨X,hX⟩:∃X:World,w.alloc (.cells cpZ 40)=X:=⟨_,rfl⟩
 rw[hX]at K0 BA;have KD:=aba (ai K0.o);have HBO:=aba (BA.ae (ai (Kept.refl 0 0 X)));have HB:=aba (h.any KD.o);have S0:=yT HB.o;have HAd:=aba (rd.ag KD.o);have HAa:=aba (ra.ag KD.o);have HAb:=aba (rb.ag KD.o);have HAl:=aba (rl.ag KD.o);clear BA h rd ra rb rl;obtain⟨u0,u1,u2,u3,u4,u5,u6,u7,u8,u9,u10⟩:=S0;have S0:=yT HB.o;have HNE:Hid (¬(w.heap.size<=p/\p<w.heap.size+1)):=aba (by omega);go_enter func113,ntmps113;go_wp2_with fail;go_region_held3 (fun w'=>w'.cell? (abb p 0)=some (.slice (some (abb gd 0)) 4 cd)/\w'.cell? (abb p 1)=some (.slice (some (abb ga 0)) 4 ca)/\w'.cell? (abb p 2)=some (iv c.r.o)/\w'.cell? (abb p 3)=some (iv c.r.p)/\w'.cell? (abb p 4)=some (iv c.r.f)/\w'.cell? (abb p 5)=some (iv c.r.m)/\w'.cell? (abb p 6)=some (.bool c.r.s)/\w'.cell? (abb p 7)=some (.bool c.r.t)/\w'.cell? (abb p 8)=some (.slice (some (abb g1 0)) 512 c1)/\w'.cell? (abb p 9)=some (.slice (some (abb g2 0)) c.bm c2)/\w'.cell? (abb p 10)=some (.bool c.st)) (first|with_reducible exact S0|with_reducible exact yT HB2.o|exact yT (Blk.kept HB2.o (Le _ _ _ _ _ _ _ _ _ _ _ _ _ _) HNE.o)|go_keep) (first|(go_at_call 76;refine(UO _ (c.cpu false) _ _ _ _ cd ca c1 c2 HAd.o HAa.o HAb.o HAl.o h4 h5 hx hl hm).mono ?_;unfold eP;rintro e9 W⟨gd',cd',ga',cA',g1',c1',g2',c2',mid',rfl,hc9,k9⟩;have HC:=aba hc9;have HK:=aba (KD.o.trans k9);have HKW:=aba k9;have HB2:=aba (HB.o.any k9);have HBW:=aba (HBO.o.ae k9);have hbw:=HBW.o.lt;clear hc9 k9;have o0:=HBW.o.cell (i:=0) rfl;have of0:=HBW.o.frozen 0;have o1:=HBW.o.cell (i:=1) rfl;have of1:=HBW.o.frozen 1;have o2:=HBW.o.cell (i:=2) rfl;have of2:=HBW.o.frozen 2;have o3:=HBW.o.cell (i:=3) rfl;have of3:=HBW.o.frozen 3;have o4:=HBW.o.cell (i:=4) rfl;have of4:=HBW.o.frozen 4;have o5:=HBW.o.cell (i:=5) rfl;have of5:=HBW.o.frozen 5;have o6:=HBW.o.cell (i:=6) rfl;have of6:=HBW.o.frozen 6;have o7:=HBW.o.cell (i:=7) rfl;have of7:=HBW.o.frozen 7;have o8:=HBW.o.cell (i:=8) rfl;have of8:=HBW.o.frozen 8;have o9:=HBW.o.cell (i:=9) rfl;have of9:=HBW.o.frozen 9;have o10:=HBW.o.cell (i:=10) rfl;have of10:=HBW.o.frozen 10;have o11:=HBW.o.cell (i:=11) rfl;have of11:=HBW.o.frozen 11));go_wp2_with fail;have hd0:=HC.o.d0;have ha0:=HC.o.a0;have hd1:=HC.o.d1;have hb0:=HC.o.b0;have hxs:X.drew.heap.size=w.heap.size+1:=by show X.heap.size=_;rw[<-hX];simp
 refine bodyPost_ret (v:=.agg (eP (c.cpu false) gd' cd' ga' cA' g1' c1' g2' c2')) ?_ rfl ⟨gd',cd',ga',cA',g1',c1',g2',c2',mid',rfl,HC.o.past (b:=w.heap.size) (by omega) (Nat.le_refl _) ?kk,?kw⟩
 case kk=>repeat (first|with_reducible exact Kept.refl _ _ _|refine af ?_ _ _ _ (.inl (by omega)))
 case kw=>repeat (first|with_reducible exact HK.o|refine af ?_ _ _ _ (.inr (by omega)))
 rw[aj rfl];go_simp;rfl
theorem XN (w:World) (lo mid hi p g2:Nat) (c:Mc) (h:MAt w lo mid hi p g2 c) (G:GM c) :
  Calls prog 113 #[.pointer (some (abb p 0))] w fun r w'=>∃gd cd ga cA g1 c1 g2 c2 mid:Nat,r=.returned (.agg (eP (c.cpu false) gd cd ga cA g1 c1 g2 c2))/\CO w' w.heap.size mid (c.cpu false) gd ga g1 g2 c2/\Kept 0 0 w w':=by
 obtain⟨gd,cd,ga,ca,g1,c1,c2,hB,hO⟩:=h;exact En w p gd cd ga ca g1 c1 g2 c2 c hB hO.d.row hO.a.row hO.b.row (cZ hO.l).row G.g.d4 G.g.a4 G.bx G.bl G.bm
theorem II (w:World) (o pc fl mk:Int) (su tr:Bool) (a b:Option Addr) (ca cb n m:Nat) (left:Int) (hn:n<=9223372036854775807) (hm:m<=9223372036854775807) (l0:0<=left) (l1:left<=2000000) :
  Calls prog 53 #[.agg #[.slice a n ca,.slice b m cb,iv o,iv pc,iv fl,iv mk,.bool su,.bool tr],iv left] w fun e w'=>e=.returned (iv (szB n m left))/\Kept 0 0 w w':=by
 by_cases h:left-(n:Int)<0
 ·have E:Hid (szB n m left = -1):=aba (by simp[szB,h]);have e1:(if left-(n:Int)<0 then (-1:Int) else left-(n:Int)) = -1:=by simp[h]
  go_enter func53,ntmps53;go_wp2_with fail;refine(oJ _ a ca n left hn l0 l1).mono ?_;rintro e w'⟨rfl,rfl⟩;rw[e1];go_wp2_with fail;go_ret;exact⟨rI E.o.symm,kept_alloc _ _⟩
 ·have e1:(if left-(n:Int)<0 then (-1:Int) else left-(n:Int))=left-(n:Int):=by simp[h]
  by_cases h2:left-(n:Int)-(m:Int)<0
  ·have E:Hid (szB n m left = -1):=aba (by simp[szB,h,h2]);have e2:(if left-(n:Int)-(m:Int)<0 then (-1:Int) else left-(n:Int)-(m:Int)) = -1:=by simp[h2]
   go_enter func53,ntmps53;go_wp2_with fail;refine(oJ _ a ca n left hn l0 l1).mono ?_;rintro e w'⟨rfl,rfl⟩;rw[e1];go_wp2_with fail;refine(oJ _ b cb m (left-(n:Int)) hm (by omega) (by omega)).mono ?_;rintro e w'⟨rfl,rfl⟩;rw[e2];go_wp2_with fail;go_ret;exact⟨rI E.o.symm,kept_alloc _ _⟩
  ·have E:Hid (szB n m left=left-(n:Int)-(m:Int)):=aba (by simp[szB,h,h2]);have e2:(if left-(n:Int)-(m:Int)<0 then (-1:Int) else left-(n:Int)-(m:Int))=left-(n:Int)-(m:Int):=by simp[h2]
   go_enter func53,ntmps53;go_wp2_with fail;refine(oJ _ a ca n left hn l0 l1).mono ?_;rintro e w'⟨rfl,rfl⟩;rw[e1];go_wp2_with fail;refine(oJ _ b cb m (left-(n:Int)) hm (by omega) (by omega)).mono ?_;rintro e w'⟨rfl,rfl⟩;rw[e2];go_wp2_with fail;go_ret;exact⟨rI E.o.symm,kept_alloc _ _⟩
theorem Vl (w:World) (o pc fl mk:Int) (su tr:Bool) (a b c d:Option Addr) (ca cb cc cd:Nat) (xs ys:List Int) (ha:aF w a xs) (hb:aF w b ys) (hc:aF w c xs) (hd:aF w d ys) (lx:xs.length<=2000000) (ly:ys.length<=2000000) :
  Calls prog 68 #[.agg #[.slice a xs.length ca,.slice b ys.length cb,iv o,iv pc,iv fl,iv mk,.bool su,.bool tr],.agg #[.slice c xs.length cc,.slice d ys.length cd,iv o,iv pc,iv fl,iv mk,.bool su,.bool tr]] w fun e w'=>e=.returned (.bool true)/\Kept 0 0 w w':=by
 have HK0:=aba (ah (kept_alloc w (.cells #[.slice a xs.length ca,.slice b ys.length cb,iv o,iv pc,iv fl,iv mk,.bool su,.bool tr] 35)) (.cells #[.slice c xs.length cc,.slice d ys.length cd,iv o,iv pc,iv fl,iv mk,.bool su,.bool tr] 35));have HA:=aba ha;have HB:=aba hb;have HC:=aba hc;have HD:=aba hd;have B0:=aba ((Blk.new w #[.slice a xs.length ca,.slice b ys.length cb,iv o,iv pc,iv fl,iv mk,.bool su,.bool tr] 35).alloc (.cells #[.slice c xs.length cc,.slice d ys.length cd,iv o,iv pc,iv fl,iv mk,.bool su,.bool tr] 35));have B1:=Blk.new (w.alloc (.cells #[.slice a xs.length ca,.slice b ys.length cb,iv o,iv pc,iv fl,iv mk,.bool su,.bool tr] 35)) #[.slice c xs.length cc,.slice d ys.length cd,iv o,iv pc,iv fl,iv mk,.bool su,.bool tr] 35;simp only[World.size_alloc]at B1;replace B1:=aba B1;clear ha hb hc hd;go_enter func68,ntmps68;go_wp2_with fail;refine(qP _ a c ca cc xs xs (HA.o.ag HK0.o) (HC.o.ag HK0.o) lx lx).mono ?_;rintro e w1⟨rfl,g1⟩;rw[show decide (xs=xs)=true from by simp];have k1:=aU g1;have C0:=aba (B0.o.ae k1);have C1:=aba (B1.o.ae k1);have c1:=C0.o.cell (i:=1) rfl;have d1:=C1.o.cell (i:=1) rfl;have HK1:=aba (HK0.o.trans k1);clear g1 k1;go_wp2_with fail;refine(qP _ b d cb cd ys ys (HB.o.ag HK1.o) (HD.o.ag HK1.o) ly ly).mono ?_;rintro e w2⟨rfl,g2⟩;rw[show decide (ys=ys)=true from by simp];have k2:=aU g2;have q2:=(C0.o.ae k2).all;have r2:=(C1.o.ae k2).all;have HK2:=aba (HK1.o.trans k2);clear g2 k2;go_wp2_with fail;go_ret;exact⟨rfl,HK2.o⟩
theorem Lj (w:World) (o pc fl mk:Int) (su tr:Bool) (a b:Option Addr) (ca cb n m:Nat) (q:Int) (ha:aF w a (marks q n)) (hb:aF w b (marks (q+(n:Int)) m)) (lx:n<=2000000) (ly:m<=2000000) (q0:0<=q) (q1:q<=1000000) :
  Calls prog 72 #[.agg #[.slice a n ca,.slice b m cb,iv o,iv pc,iv fl,iv mk,.bool su,.bool tr],iv q] w fun e w'=>e=.returned (iv (q+(n:Int)+(m:Int)))/\Kept 0 0 w w':=by
 have k0:=kept_alloc w (.cells #[.slice a n ca,.slice b m cb,iv o,iv pc,iv fl,iv mk,.bool su,.bool tr] 35);have HK0:=aba k0;have HA:=aba ha;have HB:=aba hb;clear k0 ha hb;go_enter func72,ntmps72;go_wp2_with fail;refine(pK _ a ca n q (HA.o.ag HK0.o) lx q0 (by omega)).mono ?_;rintro e w1⟨rfl,g1⟩;have k1:=aU g1;have B0:=(Blk.new w #[.slice a n ca,.slice b m cb,iv o,iv pc,iv fl,iv mk,.bool su,.bool tr] 35).ae k1;have c1:=B0.cell (i:=1) rfl;have HK1:=aba (HK0.o.trans k1);clear g1 k1 B0;go_wp2_with fail;refine(pK _ b cb m (q+(n:Int)) (HB.o.ag HK1.o) ly (by omega) (by omega)).mono ?_;rintro e w2⟨rfl,g2⟩;have HK2:=aba (HK1.o.trans (aU g2));clear g2;go_wp2_with fail;go_ret;exact⟨rfl,HK2.o⟩
theorem Uc (w:World) (o pc fl mk:Int) (su tr:Bool) (a b:Option Addr) (ca cb:Nat) (xs ys:List Int) (ha:aF w a xs) (hb:aF w b ys) (lx:xs.length<=2000000) (ly:ys.length<=2000000) :
  Calls prog 59 #[.agg #[.slice a xs.length ca,.slice b ys.length cb,iv o,iv pc,iv fl,iv mk,.bool su,.bool tr]] w fun e' w'=>∃g1 g2:Nat,e'=.returned (.agg #[.slice (some (abb g1 0)) xs.length xs.length,.slice (some (abb g2 0)) ys.length ys.length,iv o,iv pc,iv fl,iv mk,.bool su,.bool tr])/\Own w' g1 xs/\Own w' g2 ys/\w.heap.size<=g1/\g1<g2/\g2<w'.heap.size/\Kept 0 0 w w':=by
 have HA:=aba ha;have HB:=aba hb;clear ha hb;go_enter func59,ntmps59;go_wp2_with fail;have k0:Kept 0 0 w (((w.alloc (.cells #[.slice a xs.length ca,.slice b ys.length cb,iv o,iv pc,iv fl,iv mk,.bool su,.bool tr] 24)).alloc (.cells #[.slice none 0 0,.slice none 0 0,iv 0,iv 0,iv 0,iv 0,.bool false,.bool false] 35)).alloc (.cells #[.slice none 0 0,.slice none 0 0,iv 0,iv 0,iv 0,iv 0,.bool false,.bool false] 35)):=ah (ah (kept_alloc _ _) _) _;have B0:=((Blk.new w #[.slice a xs.length ca,.slice b ys.length cb,iv o,iv pc,iv fl,iv mk,.bool su,.bool tr] 24).alloc (.cells #[.slice none 0 0,.slice none 0 0,iv 0,iv 0,iv 0,iv 0,.bool false,.bool false] 35)).alloc (.cells #[.slice none 0 0,.slice none 0 0,iv 0,iv 0,iv 0,iv 0,.bool false,.bool false] 35);have B1:=(Blk.new (w.alloc (.cells #[.slice a xs.length ca,.slice b ys.length cb,iv o,iv pc,iv fl,iv mk,.bool su,.bool tr] 24)) #[.slice none 0 0,.slice none 0 0,iv 0,iv 0,iv 0,iv 0,.bool false,.bool false] 35).alloc (.cells #[.slice none 0 0,.slice none 0 0,iv 0,iv 0,iv 0,iv 0,.bool false,.bool false] 35);have B2:=Blk.new ((w.alloc (.cells #[.slice a xs.length ca,.slice b ys.length cb,iv o,iv pc,iv fl,iv mk,.bool su,.bool tr] 24)).alloc (.cells #[.slice none 0 0,.slice none 0 0,iv 0,iv 0,iv 0,iv 0,.bool false,.bool false] 35)) #[.slice none 0 0,.slice none 0 0,iv 0,iv 0,iv 0,iv 0,.bool false,.bool false] 35;simp only[World.size_alloc]at B1 B2;obtain⟨W,hW⟩:∃W:World,W=(((w.alloc (.cells #[.slice a xs.length ca,.slice b ys.length cb,iv o,iv pc,iv fl,iv mk,.bool su,.bool tr] 24)).alloc (.cells #[.slice none 0 0,.slice none 0 0,iv 0,iv 0,iv 0,iv 0,.bool false,.bool false] 35)).alloc (.cells #[.slice none 0 0,.slice none 0 0,iv 0,iv 0,iv 0,iv 0,.bool false,.bool false] 35)):=⟨_,rfl⟩
 rw[<-hW]at k0 B0 B1 B2 ⊢;clear hW;have n0:=B2.lt;refine(BK _ a ca xs (HA.o.ag k0) lx).mono ?_;rintro e' w1⟨rfl,o1,z1,g1⟩;have k1:=aU g1;have C0:=B0.ae k1;have C1:=aba (B1.ae k1);have C2:=B2.ae k1;have d3:=C2.cell (i:=0) rfl;have f3:=C2.frozen 0;have D2:=aba (C2.set 0 (.slice (some (abb W.heap.size 0)) xs.length xs.length));have D1:=aba (C1.o.other (w.heap.size+1+1) 0 (.slice (some (abb W.heap.size 0)) xs.length xs.length) (by omega));have D0:=aba (C0.other (w.heap.size+1+1) 0 (.slice (some (abb W.heap.size 0)) xs.length xs.length) (by omega));have O1:=aba (o1.setOther (w.heap.size+1+1) 0 (.slice (some (abb W.heap.size 0)) xs.length xs.length) (by omega));have K1:=aba (af (k0.trans k1) (w.heap.size+1+1) 0 (.slice (some (abb W.heap.size 0)) xs.length xs.length) (.inr (by omega)));have Z1:Hid (W.heap.size<(w1.setCell (abb (w.heap.size+1+1) 0) (.slice (some (abb W.heap.size 0)) xs.length xs.length)).heap.size):=aba (by simpa using z1);obtain⟨X,hX⟩:∃X:World,X=w1.setCell (abb (w.heap.size+1+1) 0) (.slice (some (abb W.heap.size 0)) xs.length xs.length):=⟨_,rfl⟩
 rw[<-hX]at D2 D1 D0 O1 K1 Z1;have x4:=D0.o.cell (i:=1) rfl;rw[hX]at x4;have cc1:=C0.all;clear B0 B1 B2 C0 C1 C2 o1 z1 g1 k0 k1;go_wp2_with fail;rw[<-hX];clear hX x4 d3 f3 cc1;refine(BK _ b cb ys (HB.o.ag K1.o) ly).mono ?_;rintro e' w2⟨rfl,o2,z2,g2⟩;have k2:=aU g2;have E0:=D0.o.ae k2;have E1:=D1.o.ae k2;have E2:=D2.o.ae k2;have zz:=Z1.o;have O1:=aba (O1.o.ag k2 (by omega));have O2:=aba o2;have K2:=aba (K1.o.trans k2);have e2:=E0.all;have a0:=E2.all;have u1:=E2.fz;have b0:=E1.all;have v0:=E1.fz;have E1:=aba E1;clear E0 E2 o2 g2 k2;go_wp2_with fail;refine bodyPost_ret (v:=.agg #[.slice (some (abb W.heap.size 0)) xs.length xs.length,.slice (some (abb X.heap.size 0)) ys.length ys.length,iv o,iv pc,iv fl,iv mk,.bool su,.bool tr]) ?_ rfl ⟨W.heap.size,X.heap.size,rfl,?_,?_,by omega,zz,?_,?_⟩
 ·exact results_cell_row rfl _ _ _ _ _ (0,0) _ rfl (((((((((((((((E1.o.other _ _ _ (by omega)).other _ _ _ (by omega)).other _ _ _ (by omega)).other _ _ _ (by omega)).other _ _ _ (by omega)).other _ _ _ (by omega)).other _ _ _ (by omega)).set _ _).set _ _).set _ _).set _ _).set _ _).set _ _).set _ _).set _ _) underlying35 rfl (by kernel_rfl)
 ·exact(((((((((((((((O1.o.setOther _ _ _ (by omega)).setOther _ _ _ (by omega)).setOther _ _ _ (by omega)).setOther _ _ _ (by omega)).setOther _ _ _ (by omega)).setOther _ _ _ (by omega)).setOther _ _ _ (by omega)).setOther _ _ _ (by omega)).setOther _ _ _ (by omega)).setOther _ _ _ (by omega)).setOther _ _ _ (by omega)).setOther _ _ _ (by omega)).setOther _ _ _ (by omega)).setOther _ _ _ (by omega)).setOther _ _ _ (by omega))
 ·exact(((((((((((((((O2.o.setOther _ _ _ (by omega)).setOther _ _ _ (by omega)).setOther _ _ _ (by omega)).setOther _ _ _ (by omega)).setOther _ _ _ (by omega)).setOther _ _ _ (by omega)).setOther _ _ _ (by omega)).setOther _ _ _ (by omega)).setOther _ _ _ (by omega)).setOther _ _ _ (by omega)).setOther _ _ _ (by omega)).setOther _ _ _ (by omega)).setOther _ _ _ (by omega)).setOther _ _ _ (by omega)).setOther _ _ _ (by omega))
 ·simpa using z2
 ·exact(af (af (af (af (af (af (af (af (af (af (af (af (af (af (af K2.o _ _ _ (.inr (by omega))) _ _ _ (.inr (by omega))) _ _ _ (.inr (by omega))) _ _ _ (.inr (by omega))) _ _ _ (.inr (by omega))) _ _ _ (.inr (by omega))) _ _ _ (.inr (by omega))) _ _ _ (.inr (by omega))) _ _ _ (.inr (by omega))) _ _ _ (.inr (by omega))) _ _ _ (.inr (by omega))) _ _ _ (.inr (by omega))) _ _ _ (.inr (by omega))) _ _ _ (.inr (by omega))) _ _ _ (.inr (by omega)))
structure Bi (p q:Option Nat) (w w':World):Prop where
 os:w'.os=w.os
 tape:w'.tape=w.tape
 output:w'.output=w.output
 size:w.heap.size<=w'.heap.size
 block:∀k,k<w.heap.size->some k≠p->some k≠q->w'.heap[k]? = w.heap[k]?
theorem Tu {p q:Option Nat} {w X w1 w2:World} (k:Kept 0 0 w X) (g1:X.grownBy w1 p) (g2:w1.grownBy w2 q):Bi p q w w2:=
 ⟨(g2.os.trans g1.os).trans k.os,(g2.tape.trans g1.tape).trans k.tape,(g2.output.trans g1.output).trans k.output,Nat.le_trans k.size (Nat.le_trans g1.size g2.size),fun i hi h1 h2=>
  (g2.block i (Nat.lt_of_lt_of_le (Nat.lt_of_lt_of_le hi k.size) g1.size) h2).trans ((g1.block i (Nat.lt_of_lt_of_le hi k.size) h1).trans (k.block i hi (by omega)))⟩
theorem Own.xB {w w':World} {g:Nat} {xs:List Int} {p q:Option Nat} (h:Own w g xs) (k:Bi p q w w') (h1:some g≠p) (h2:some g≠q):Own w' g xs:=by
 intro i hi;obtain⟨hc,hf⟩:=h i hi;have e:=k.block g (World.block_lt_of_cell? _ _ hc) h1 h2;exact⟨by rw[World.cell?_of_block (w:=w) e];exact hc,by rw[World.frozen?_of_block (w:=w) e];exact hf⟩
theorem aK.xB {w w':World} {lo hi:Nat} {a:Option Addr} {xs:List Int} {p q:Option Nat} (h:aK w lo hi a xs) (k:Bi p q w w') (h1:∀g,blk a=some g->some g≠p) (h2:∀g,blk a=some g->some g≠q):aK w' lo hi a xs:=by
 rcases h with h|⟨g,ea,b0,b1,ho⟩
 ·exact .inl h
 ·exact .inr ⟨g,ea,b0,b1,ho.xB k (h1 g (by rw[ea];rfl)) (h2 g (by rw[ea];rfl))⟩
theorem Gl (w:World) (lo hi:Nat) (o pc fl mk:Int) (su tr:Bool) (a b:Option Addr) (ca cb:Nat) (xs ys:List Int) (q:Int) (ha:aK w lo hi a xs) (hb:aK w lo hi b ys) (hab:∀g,blk a=some g->blk b≠some g) (hh:hi<=w.heap.size) (lx:xs.length<=2000000) (ly:ys.length<=2000000) (q0:0<=q) (q1:q<=10000000) :
  Calls prog 70 #[.agg #[.slice a xs.length ca,.slice b ys.length cb,iv o,iv pc,iv fl,iv mk,.bool su,.bool tr],iv q] w fun e w'=>e=.returned (iv (q+(xs.length:Int)+(ys.length:Int)))/\aK w' lo hi a (marks q xs.length)/\aK w' lo hi b (marks (q+(xs.length:Int)) ys.length)/\Kept lo hi w w'/\Bi (blk a) (blk b) w w':=by
 have HA:=aba ha;have HB:=aba hb;have HAB:=aba hab;clear ha hb hab;go_enter func70,ntmps70;go_wp2_with fail;have k0:=kept_alloc w (.cells #[.slice a xs.length ca,.slice b ys.length cb,iv o,iv pc,iv fl,iv mk,.bool su,.bool tr] 35);have s0:=HA.o.kept k0 (by omega);have t0:=HB.o.kept k0 (by omega);refine(vO _ lo ca a xs q (s0.slot (by simp;omega)) lx q0 (by omega)).mono ?_;rintro e w1⟨rfl,s1,g1⟩;have k1:=jZ g1 s0.mg;have s1':=s0.again s1;have B0:=(Blk.new w #[.slice a xs.length ca,.slice b ys.length cb,iv o,iv pc,iv fl,iv mk,.bool su,.bool tr] 35).kept k1 (by omega);have c1:=B0.cell (i:=1) rfl
 have t1:aK w1 lo hi b ys:=by
  rcases t0 with t|⟨g,eb,b0,b1,ho⟩
  ·exact .inl t
  ·refine .inr ⟨g,eb,b0,b1,ho.kept g1 ?_⟩;intro e;exact HAB.o g e.symm (by rw[eb];rfl)
 have HG1:=aba g1;have HK0:=aba k0;have HK1:=aba ((k0.any (lo:=lo) (hi:=hi)).trans k1);have HS1:=aba s1';have HT1:=aba t1;clear k0 s0 t0 s1 g1 k1 s1' t1 B0;go_wp2_with fail;refine(vO _ lo cb b ys (q+(xs.length:Int)) (HT1.o.slot (Nat.le_trans hh HK1.o.size)) ly (by omega) (by omega)).mono ?_;rintro e w2⟨rfl,s2,g2⟩;have k2:=jZ g2 HT1.o.mg
 have HS2:Hid (aK w2 lo hi a (marks q xs.length)):=aba (by
  rcases HS1.o with t|⟨g,ea,b0,b1,ho⟩
  ·exact .inl t
  ·refine .inr ⟨g,ea,b0,b1,ho.kept g2 ?_⟩;intro e
   exact HAB.o g (by rw[ea];rfl) e.symm)
 have HT2:=aba (HT1.o.again s2);have HK2:=aba (HK1.o.trans k2);have HB2:=aba (Tu HK0.o HG1.o g2);clear s2 g2 k2;go_wp2_with fail;go_ret;exact⟨rfl,HS2.o,HT2.o,HK2.o,HB2.o⟩
theorem JU (w:World) (lo hi:Nat) (a b:Option Addr) (ca cb m:Nat) (xs ys:List Int) (q:Int) (ha:aK w lo hi a xs) (hb:aK w lo hi b ys) (hab:∀g,blk a=some g->blk b≠some g) (hh:hi<=w.heap.size) (lx:xs.length<=2000000) (ly:ys.length=5*m) (bm:m<=2000000) (q0:0<=q) (q1:q<=10000000) :
  Calls prog 71 #[.agg #[.slice a xs.length ca,.slice b m cb],iv q] w fun e w'=>e=.returned (iv (q+(xs.length:Int)+5*(m:Int)))/\aK w' lo hi a (marks q xs.length)/\aK w' lo hi b (marks (q+(xs.length:Int)) (5*m))/\Kept lo hi w w'/\Bi (blk a) (blk b) w w':=by
 have HY:=aba ly;have HA:=aba ha;have HB:=aba hb;have HAB:=aba hab;clear ly ha hb hab;go_enter func71,ntmps71;go_wp2_with fail;have k0:=kept_alloc w (.cells #[.slice a xs.length ca,.slice b m cb] 38);have s0:=HA.o.kept k0 (by omega);have t0:=HB.o.kept k0 (by omega);refine(vO _ lo ca a xs q (s0.slot (by simp;omega)) lx q0 (by omega)).mono ?_;rintro e w1⟨rfl,s1,g1⟩;have k1:=jZ g1 s0.mg;have s1':=s0.again s1;have B0:=(Blk.new w #[.slice a xs.length ca,.slice b m cb] 38).kept k1 (by omega);have c1:=B0.cell (i:=1) rfl
 have t1:aK w1 lo hi b ys:=by
  rcases t0 with t|⟨g,eb,b0,b1,ho⟩
  ·exact .inl t
  ·refine .inr ⟨g,eb,b0,b1,ho.kept g1 ?_⟩;intro e;exact HAB.o g e.symm (by rw[eb];rfl)
 have HG1:=aba g1;have HK0:=aba k0;have HK1:=aba ((k0.any (lo:=lo) (hi:=hi)).trans k1);have HS1:=aba s1';have HT1:=aba t1;clear k0 s0 t0 s1 g1 k1 s1' t1 B0;go_wp2_with fail;refine(Gj _ lo cb m b ys (q+(xs.length:Int)) (HT1.o.slot (Nat.le_trans hh HK1.o.size)) HY.o bm (by omega) (by omega)).mono ?_;rintro e w2⟨rfl,s2,g2⟩;have k2:=jZ g2 HT1.o.mg
 have HS2:Hid (aK w2 lo hi a (marks q xs.length)):=aba (by
  rcases HS1.o with t|⟨g,ea,b0,b1,ho⟩
  ·exact .inl t
  ·refine .inr ⟨g,ea,b0,b1,ho.kept g2 ?_⟩;intro e
   exact HAB.o g (by rw[ea];rfl) e.symm)
 have HT2:=aba (HT1.o.again s2);have HK2:=aba (HK1.o.trans k2);have HB2:=aba (Tu HK0.o HG1.o g2);clear s2 g2 k2;go_wp2_with fail;go_ret;exact⟨rfl,HS2.o,HT2.o,HK2.o,HB2.o⟩
structure ou (w:World) (lo hi:Nat) (c:Cp) (a b e q:Option Addr):Prop where
 d:aK w lo hi a c.r.xs
 a':aK w lo hi b c.r.ys
 b':aK w lo hi e c.bx
 l:aK w lo hi q c.bl
 n1:∀g,blk a=some g->blk b≠some g
 n2:∀g,blk a=some g->blk e≠some g
 n3:∀g,blk a=some g->blk q≠some g
 n4:∀g,blk b=some g->blk e≠some g
 n5:∀g,blk b=some g->blk q≠some g
 n6:∀g,blk e=some g->blk q≠some g
theorem ou.kept {w w':World} {l h lo hi:Nat} {c:Cp} {a b e q:Option Addr} (s:ou w l h c a b e q) (k:Kept lo hi w w') (hd:h<=lo\/hi<=l\/hi<=lo):ou w' l h c a b e q:=
 ⟨s.d.kept k hd,s.a'.kept k hd,s.b'.kept k hd,s.l.kept k hd,s.n1,s.n2,s.n3,s.n4,s.n5,s.n6⟩
def szC (n m k j:Nat) (left:Int):Int:=if szB n m left<0 then -1 else szB k j (szB n m left)
theorem OG {n m k j:Nat} {left:Int} (h:¬szC n m k j left<0):(n:Int)+(m:Int)+(k:Int)+(j:Int)<=left:=by
 unfold szC at h;split at h
 ·exact absurd (by decide) h
 ·rename_i h1;have a1:=DT h1;have a2:=DT h;unfold szB at a2;split at a2
  ·omega
  ·split at a2<;>omega
theorem Ug {n m:Nat} {left:Int} (h:¬szB n m left<0):0<=szB n m left/\szB n m left<=left:=by
 unfold szB at h ⊢;split
 ·rename_i h1;rw[if_pos h1]at h;exact absurd (by decide) h
 ·rename_i h1;rw[if_neg h1]at h;split
  ·rename_i h2;rw[if_pos h2]at h;exact absurd (by decide) h
  ·omega
theorem xm {n m:Nat} {left:Int} (h:szB n m left<0):szB n m left = -1:=by
 unfold szB at h ⊢;split
 ·rfl
 ·rename_i h1;rw[if_neg h1]at h;split
  ·rfl
  ·rename_i h2;rw[if_neg h2]at h;omega
theorem SA (w:World) (c:Cp) (a b e q:Option Addr) (ca cb ce cq:Nat) (left:Int) (lx:c.r.xs.length<=9223372036854775807) (ly:c.r.ys.length<=9223372036854775807) (lb:c.bx.length<=9223372036854775807) (lm:c.bm<=9223372036854775807) (l0:0<=left) (l1:left<=2000000) :
  Calls prog 12 #[.agg (cpA c a b e q ca cb ce cq),iv left] w fun r w'=>r=.returned (iv (szC c.r.xs.length c.r.ys.length c.bx.length c.bm left))/\Kept 0 0 w w':=by
 have K0:=aba (kept_alloc w (.cells (cpA c a b e q ca cb ce cq) 29));have B0:=aba (Blk.new w (cpA c a b e q ca cb ce cq) 29);by_cases h:szB c.r.xs.length c.r.ys.length left<0
 ·have E:Hid (szC c.r.xs.length c.r.ys.length c.bx.length c.bm left = -1):=aba (by simp[szC,h]);have e1:=xm h;go_enter func12,ntmps12;go_wp2_with fail;refine(II _ _ _ _ _ _ _ _ _ _ _ _ _ left lx ly l0 l1).mono ?_;rintro e9 w1⟨rfl,k⟩;rw[e1];have HK:=aba (K0.o.trans k);clear k;go_wp2_with fail;go_ret;exact⟨rI E.o.symm,HK.o⟩
 ·obtain⟨s0,s1⟩:=Ug h;have E:Hid (szC c.r.xs.length c.r.ys.length c.bx.length c.bm left=szB c.bx.length c.bm (szB c.r.xs.length c.r.ys.length left)):=aba (by simp[szC,h]);revert h s0 s1 E;generalize hS:szB c.r.xs.length c.r.ys.length left=S;have HS:=aba hS;clear hS;intro h s0 s1 E;by_cases h2:szB c.bx.length c.bm S<0
  all_goals
   have E2:=aba (fun q=>@xm c.bx.length c.bm S q);go_enter func12,ntmps12;go_wp2_with fail;refine(II _ _ _ _ _ _ _ _ _ _ _ _ _ left lx ly l0 l1).mono ?_;rintro e9 w1⟨rfl,k⟩;rw[HS.o];have HK:=aba (K0.o.trans k);have B1:=aba (B0.o.ae k);clear k;have i8:=B1.o.cell (i:=8) rfl;have i9:=B1.o.cell (i:=9) rfl;go_wp2_with fail;refine(WX _ _ _ _ _ _ _ S lb lm s0 (by omega)).mono ?_;rintro e9 w2⟨rfl,k⟩;have HK2:=aba (HK.o.trans k);clear k i8 i9;go_wp2_with fail;go_ret
   first
    | exact⟨rI E.o.symm,HK2.o⟩
    | exact⟨rI (by rw[E.o,E2.o h2]),HK2.o⟩
theorem Yi (w:World) (c:Cp) (a b e q a2 b2 e2 q2:Option Addr) (ca cb ce cq ca2 cb2 ce2 cq2:Nat) (ha:aF w a c.r.xs) (hb:aF w b c.r.ys) (he:aF w e c.bx) (hq:aF w q c.bl) (ha2:aF w a2 c.r.xs) (hb2:aF w b2 c.r.ys) (he2:aF w e2 c.bx) (hq2:aF w q2 c.bl) (lx:c.r.xs.length<=2000000) (ly:c.r.ys.length<=2000000) (lb:c.bx.length<=2000000) (ll:c.bl.length=5*c.bm) (lm:c.bm<=2000000) :
  Calls prog 17 #[.agg (cpA c a b e q ca cb ce cq),.agg (cpA c a2 b2 e2 q2 ca2 cb2 ce2 cq2)] w fun r w'=>r=.returned (.bool true)/\Kept 0 0 w w':=by
 have K0:=aba (ah (kept_alloc w (.cells (cpA c a b e q ca cb ce cq) 40)) (.cells (cpA c a2 b2 e2 q2 ca2 cb2 ce2 cq2) 40));have B0:=(Blk.new w (cpA c a b e q ca cb ce cq) 40).alloc (.cells (cpA c a2 b2 e2 q2 ca2 cb2 ce2 cq2) 40);have B1:=Blk.new (w.alloc (.cells (cpA c a b e q ca cb ce cq) 40)) (cpA c a2 b2 e2 q2 ca2 cb2 ce2 cq2) 40;simp only[World.size_alloc]at B1;obtain⟨X,hX⟩:∃X:World,(w.alloc (.cells (cpA c a b e q ca cb ce cq) 40)).alloc (.cells (cpA c a2 b2 e2 q2 ca2 cb2 ce2 cq2) 40)=X:=⟨_,rfl⟩
 rw[hX]at K0 B0 B1;have HB0:=aba B0;have HB1:=aba B1;have i0:=B0.all;have j0:=B1.all;have HL:=aba ll;have HE:=aba (he.ag K0.o);have HQ:=aba (hq.ag K0.o);have HE2:=aba (he2.ag K0.o);have HQ2:=aba (hq2.ag K0.o);have HA:=aba (ha.ag K0.o);have HB:=aba (hb.ag K0.o);have HA2:=aba (ha2.ag K0.o);have aaL:=aba (hb2.ag K0.o);clear B0 B1 ll ha hb he hq ha2 hb2 he2 hq2;go_enter func17,ntmps17;go_wp2_with fail;refine(Vl _ c.r.o c.r.p c.r.f c.r.m c.r.s c.r.t a b a2 b2 ca cb ca2 cb2 c.r.xs c.r.ys HA.o HB.o HA2.o aaL.o lx ly).mono ?_;rintro e9 w1⟨rfl,k⟩;have K1:=aba (K0.o.trans k);have C0:=aba (HB0.o.ae k);have C1:=aba (HB1.o.ae k);have HE':=aba (HE.o.ag k);have HQ':=aba (HQ.o.ag k);have HE2':=aba (HE2.o.ag k);have HQ2':=aba (HQ2.o.ag k);clear k i0 j0;have i8:=C0.o.all;have j8:=C1.o.all;go_wp2_with fail;refine(Yj _ e q e2 q2 ce cq ce2 cq2 c.bm c.bm c.bx c.bl c.bx c.bl HE'.o HQ'.o HE2'.o HQ2'.o lb lb HL.o HL.o lm lm).mono ?_;rintro e9 w2⟨rfl,k⟩;rw[show(decide (c.bx=c.bx)&&decide (c.bl=c.bl))=true from by simp];have K2:=aba (K1.o.trans k);have D0:=aba (C0.o.ae k);have D1:=aba (C1.o.ae k);clear k;have i10:=D0.o.cell (i:=10) rfl;have i11:=D0.o.cell (i:=11) rfl;have j10:=D1.o.cell (i:=10) rfl;have j11:=D1.o.cell (i:=11) rfl;go_wp2_with fail;go_ret;exact⟨rfl,K2.o⟩
def Pl.mkC (c:Cp) (k:Int):Cp:={c with r:={c.r with xs:=marks k c.r.xs.length,ys:=marks (k+(c.r.xs.length:Int)) c.r.ys.length},bx:=marks (k+(c.r.xs.length:Int)+(c.r.ys.length:Int)) c.bx.length,bl:=marks (k+(c.r.xs.length:Int)+(c.r.ys.length:Int)+(c.bx.length:Int)) (5*c.bm)}
def Pl.mkN (c:Cp) (k:Int):Int:=k+(c.r.xs.length:Int)+(c.r.ys.length:Int)+(c.bx.length:Int)+5*(c.bm:Int)
theorem Qi (w:World) (c:Cp) (a b e q:Option Addr) (ca cb ce cq:Nat) (ha:aF w a (mkC c 1).r.xs) (hb:aF w b (mkC c 1).r.ys) (he:aF w e (mkC c 1).bx) (hq:aF w q (mkC c 1).bl) (lx:c.r.xs.length<=400000) (ly:c.r.ys.length<=400000) (lb:c.bx.length<=2000000) (lm:c.bm<=2000000) :
  Calls prog 20 #[.agg (cpA c a b e q ca cb ce cq),iv 1] w fun r w'=>r=.returned (iv (mkN c 1))/\Kept 0 0 w w':=by
 have E:Hid (mkN c 1=1+(c.r.xs.length:Int)+(c.r.ys.length:Int)+(c.bx.length:Int)+5*(c.bm:Int)):=aba rfl;have K0:=aba (kept_alloc w (.cells (cpA c a b e q ca cb ce cq) 40));have B0:=Blk.new w (cpA c a b e q ca cb ce cq) 40;have HA:=aba (ha.ag K0.o);have HB:=aba (hb.ag K0.o);have HE:=aba (he.ag K0.o);have HQ:=aba (hq.ag K0.o);obtain⟨X,hX⟩:∃X:World,w.alloc (.cells (cpA c a b e q ca cb ce cq) 40)=X:=⟨_,rfl⟩
 rw[hX]at K0 B0 HA HB HE HQ;have HB0:=aba B0;have i0:=B0.all;clear B0 ha hb he hq;go_enter func20,ntmps20;go_wp2_with fail;refine(Lj _ c.r.o c.r.p c.r.f c.r.m c.r.s c.r.t a b ca cb c.r.xs.length c.r.ys.length 1 HA.o HB.o (by omega) (by omega) (by decide) (by decide)).mono ?_;rintro e9 w1⟨rfl,k⟩;have K1:=aba (K0.o.trans k);have C0:=aba (HB0.o.ae k);have HE':=aba (HE.o.ag k);have HQ':=aba (HQ.o.ag k);clear k i0;have i8:=C0.o.cell (i:=8) rfl;have i9:=C0.o.cell (i:=9) rfl;go_wp2_with fail;refine(Qj _ e q ce cq c.bx.length c.bm (1+(c.r.xs.length:Int)+(c.r.ys.length:Int)) HE'.o HQ'.o lb lm (by omega) (by omega)).mono ?_;rintro e9 w2⟨rfl,k⟩;have K2:=aba (K1.o.trans k);clear k;go_wp2_with fail;go_ret;exact⟨rI E.o.symm,K2.o⟩
def Vp (c:Cp) (a b e q:Option Addr) (ca cb ce cq:Nat):Array Value:=#[.slice a c.r.xs.length ca,.slice b c.r.ys.length cb,iv c.r.o,iv c.r.p,iv c.r.f,iv c.r.m,.bool c.r.s,.bool c.r.t,.slice e c.bx.length ce,.slice q c.bm cq,.bool c.st,.bool c.ha]
structure lT (w:World) (base:Nat) (c:Cp) (a b e q:Option Addr):Prop where
 d:aK w base w.heap.size a c.r.xs
 a':aK w base w.heap.size b c.r.ys
 b':aK w base w.heap.size e c.bx
 l:aK w base w.heap.size q c.bl
 n1:∀g,blk a=some g->blk b≠some g
 n2:∀g,blk a=some g->blk e≠some g
 n3:∀g,blk a=some g->blk q≠some g
 n4:∀g,blk b=some g->blk e≠some g
 n5:∀g,blk b=some g->blk q≠some g
 n6:∀g,blk e=some g->blk q≠some g
theorem CO.Yp {w:World} {lo mid gd ga g1 g2 c2:Nat} {c:Cp} (h:CO w lo mid c gd ga g1 g2 c2):lT w lo c (some (abb gd 0)) (some (abb ga 0)) (some (abb g1 0)) (some (abb g2 0)):=by
 have:=h.d0;have:=h.d1;have:=h.a0;have:=h.a1;have:=h.da;have:=h.b0;have:=h.b1;have:=h.bl
 have q:=h.l.lt g2 rfl;refine⟨.inr ⟨gd,rfl,by omega,by omega,h.d⟩,.inr ⟨ga,rfl,by omega,by omega,h.a⟩,.inr ⟨g1,rfl,by omega,by omega,h.b⟩,.inr ⟨g2,rfl,by omega,by omega,cZ h.l⟩,?_,?_,?_,?_,?_,?_⟩ <;>
 ·intro g e1 e2;simp[blk]at e1 e2;omega
theorem MN (w:World) (base:Nat):lT w base QV none none none none:=
 ⟨.inl ⟨rfl,rfl⟩,.inl ⟨rfl,rfl⟩,.inl ⟨rfl,rfl⟩,.inl ⟨rfl,rfl⟩,by simp[blk],by simp[blk],by simp[blk],by simp[blk],by simp[blk],by simp[blk]⟩
def ftC (f:Ft):Array Value:=(ftA f)
theorem jS {fn:Func} {p q:Tmp} {ty tz:TypeId} (h:fn.results=#[.cell p ty,.cell q tz]) (tmps:Array Value) (P:Program) (w:World) :
  (results fn tmps).run P w=((asAddr (tmps.getD p undef)).run P w).andThen fun a w₁=>((loadVar ty a).run P w₁).andThen fun v w₂=>((asAddr (tmps.getD q undef)).run P w₂).andThen fun b w₃=>((loadVar tz b).run P w₃).andThen fun u w₄=>.ok (.tuple #[v,u]) w₄:=by
 simp only[results,h];simp[Sem.run_bind,Result.andThen]
theorem gQ {fn:Func} {p q:Tmp} {tz:TypeId} (h:fn.results=#[.tmp p,.cell q tz]) (tmps:Array Value) (P:Program) (w:World) :
  (results fn tmps).run P w=((asAddr (tmps.getD q undef)).run P w).andThen fun b w₁=>((loadVar tz b).run P w₁).andThen fun u w₂=>.ok (.tuple #[tmps.getD p undef,u]) w₂:=by
 simp only[results,h];simp[Sem.run_bind,Result.andThen]
theorem lT.mvs {w w':World} {base base' x y:Nat} {c:Cp} {a b e q:Option Addr} (h:lT w base c a b e q) (k:Kept x y w w') (hy:y<=base) (hb:base'<=base):lT w' base' c a b e q:=
 ⟨(aK.kept h.d k (.inr (.inl hy))).wide hb k.size,(aK.kept h.a' k (.inr (.inl hy))).wide hb k.size,(aK.kept h.b' k (.inr (.inl hy))).wide hb k.size,(aK.kept h.l k (.inr (.inl hy))).wide hb k.size,h.n1,h.n2,h.n3,h.n4,h.n5,h.n6⟩
theorem Aa {w a b:World} {lo hi g g':Nat} (k:Kept 0 0 w a) (h:Since a lo hi g b g') (hl:w.heap.size<=lo) (hg:w.heap.size<=g):Kept 0 0 w b:=
 ⟨h.2.os.trans k.os,h.2.tape.trans k.tape,h.2.output.trans k.output,Nat.le_trans k.size h.2.size,fun i hi _=>(h.2.block i (Nat.lt_of_lt_of_le hi k.size) (by unfold own;omega)).trans (k.block i hi (by omega))⟩
theorem jU {w:World} {p:Nat} {v0 v1 v2 v3 v4 v5 v6 v7 v8 v9 v10 v11:Value}:Kept p (p+1) w ((((((((((((w.setCell (abb p 0) (v0)).setCell (abb p 1) (v1)).setCell (abb p 2) (v2)).setCell (abb p 3) (v3)).setCell (abb p 4) (v4)).setCell (abb p 5) (v5)).setCell (abb p 6) (v6)).setCell (abb p 7) (v7)).setCell (abb p 8) (v8)).setCell (abb p 9) (v9)).setCell (abb p 10) (v10)).setCell (abb p 11) (v11)):=((((((((((((ak w p 0 (v0)).one 1 (v1)).one 2 (v2)).one 3 (v3)).one 4 (v4)).one 5 (v5)).one 6 (v6)).one 7 (v7)).one 8 (v8)).one 9 (v9)).one 10 (v10)).one 11 (v11))
structure Pl.WfR (d:Rg):Prop where
 o:(Lit.int .i64 d.o).wf=true
 p:(Lit.int .i64 d.p).wf=true
 f:(Lit.int .i64 d.f).wf=true
 m:(Lit.int .i64 d.m).wf=true
theorem xu (v:Int) (w:World) (lo : -9223372036854775808<=v) (hi:v<=9223372036854775807) :
  Calls prog 175 #[iv v] w fun e w'=>e=.returned (.tuple #[iv (oP 1 v),.bool (okv 1 v)])/\w'=w:=by
 by_cases h:0<=v/\v<256
 ·obtain⟨h0,h1⟩:=h;have hs:IntKind.u8.signed=false:=rfl;have hm:IntKind.u8.max=255:=by decide
  have hb:bits .xor .u8 255 0=255:=by decide
  by_cases h:127<v
  all_goals
   go_enter func175,ntmps175;go_wp2;go_ret2;exact⟨rIB (by simp[oP,okv,sg,Pl.top,h0,h1];omega) (by simp[okv,Pl.top,h0,h1]),rfl⟩
 ·go_enter func175,ntmps175;go_wp2;go_ret2
  have k:okv 1 v=false:=by
   cases c:okv 1 v
   ·rfl
   ·have:=aS c;omega
  exact⟨rIB (by simp[oP,k]) k.symm,rfl⟩
theorem vk (v:Int) (w:World) (lo : -9223372036854775808<=v) (hi:v<=9223372036854775807) :
  Calls prog 176 #[iv v] w fun e w'=>e=.returned (.tuple #[iv (oP 2 v),.bool (okv 2 v)])/\w'=w:=by
 by_cases h:0<=v/\v<65536
 ·obtain⟨h0,h1⟩:=h;have hs:IntKind.u16.signed=false:=rfl;have hm:IntKind.u16.max=65535:=by decide
  have hb:bits .xor .u16 65535 0=65535:=by decide
  by_cases h:32767<v
  all_goals
   go_enter func176,ntmps176;go_wp2;go_ret2;exact⟨rIB (by simp[oP,okv,sg,Pl.top,h0,h1];omega) (by simp[okv,Pl.top,h0,h1]),rfl⟩
 ·have hw:IntKind.u16.wrap v=v%65536:=IntKind.wrap_u16 v;go_enter func176,ntmps176;go_wp2;go_ret2
  have k:okv 2 v=false:=by
   cases c:okv 2 v
   ·rfl
   ·have:=aS c;omega
  exact⟨rIB (by simp[oP,k]) k.symm,rfl⟩
theorem bW (s v:Int) (w:World) (lo : -9223372036854775808<=v) (hi:v<=9223372036854775807) :
  Calls prog 120 #[iv s,iv v] w fun e w'=>e=.returned (.tuple #[iv (oP s v),.bool (okv s v)])/\w'=w:=by
 by_cases h1:s=1
 ·subst h1;go_enter func120,ntmps120;go_wp2_with fail;refine(xu v _ lo hi).mono ?_;rintro e w'⟨rfl,rfl⟩;go_wp2_with fail;go_ret2;exact⟨rfl,rfl⟩
 ·by_cases h2:s=2
  ·subst h2;go_enter func120,ntmps120;go_wp2_with fail;refine(vk v _ lo hi).mono ?_;rintro e w'⟨rfl,rfl⟩;go_wp2_with fail;go_ret2;exact⟨rfl,rfl⟩
  ·have k:okv s v=false:=by simp[okv,h1,h2]
   have k1:(s==1)=false:=by simpa using h1
   have k2:(s==2)=false:=by simpa using h2
   go_enter func120,ntmps120;go_wp2_with fail;go_ret2;exact⟨rIB (by simp[oP,k]) k.symm,rfl⟩
theorem wfB {v:Int} (h:(Lit.int .i64 v).wf=true) : -9223372036854775808<=v/\v<=9223372036854775807:=bounds_i64 h
theorem ZR (v:Int):okv 2 v=aP v:=by
 unfold okv aP within Pl.top;rw[Bool.eq_iff_iff];simp;omega
theorem isWord (v:Int) (w:World) (lo : -9223372036854775808<=v) (hi:v<=9223372036854775807) :
  Calls prog 64 #[iv v] w fun e w'=>e=.returned (.bool (aP v))/\w'=w:=by
 go_enter func64,ntmps64;go_wp2_with (go_at_call 120;refine st (bW _ _ _ lo hi) ?_;rw[ZR]);go_ret;exact⟨rfl,rfl⟩
theorem Yd (k:Int) (w:World):Calls prog 169 #[iv k] w fun e w'=>e=.returned (.bool (within k 0 3))/\w'=w:=by
 by_cases h0:0<=k
 ·by_cases h1:k<=3
  ·go_enter func169,ntmps169;go_wp2;go_ret;exact⟨rB (by simp[within,h0,h1]),rfl⟩
  ·go_enter func169,ntmps169;go_wp2;go_ret;exact⟨rB (by simp[within,h0];omega),rfl⟩
 ·go_enter func169,ntmps169;go_wp2;go_ret;exact⟨rB (by simp[within];omega),rfl⟩
theorem gZ (v:Int) (w:World):Calls prog 178 #[iv v] w fun e w'=>e=.returned (iv (v%65536))/\w'=w:=by
 have hW:=IntKind.wrap_u16 v;go_enter func178,ntmps178;go_wp2;go_ret;exact⟨rfl,rfl⟩
theorem rO (k:Int) (w:World):Calls prog 191 #[iv k] w fun e w'=>e=.returned (.bool (within k 0 31))/\w'=w:=by
 by_cases h0:0<=k
 ·by_cases h1:k<=31
  ·go_enter func191,ntmps191;go_wp2;go_ret;exact⟨rB (by simp[within,h0,h1]),rfl⟩
  ·go_enter func191,ntmps191;go_wp2;go_ret;exact⟨rB (by simp[within,h0];omega),rfl⟩
 ·go_enter func191,ntmps191;go_wp2;go_ret;exact⟨rB (by simp[within];omega),rfl⟩
theorem eu (w:World) (a:Option Addr) (ca:Nat) (xs:List Int) (ha:Came w a xs) (lx:xs.length<=2000000) :
  Calls prog 190 #[.slice a xs.length ca] w fun e w'=>e=.returned (.bool (xs.all aP))/\w'=w:=by
 have HA:=aba ha;clear ha;go_enter func190,ntmps190;go_wp2;go_loop [4,7] (fun _ j=>∃k:Nat,k<=xs.length/\j=iv k/\∀i,i<k->aP (el xs i)=true) (fun _ j=>xs.length-(intOf j).toNat)
 case atStart=>exact⟨0,Nat.zero_le _,rfl,fun i hi=>absurd hi (Nat.not_lt_zero i)⟩
 case round=>
  obtain⟨k,hk,rfl,heq⟩:=hrel;have HE:=aba heq;clear heq;by_cases hlt:k<xs.length
  ·obtain⟨g1,o1,rfl,hc1⟩:=HA.o.1 k hlt;obtain⟨lo,hi⟩:=HA.o.2 k hlt;rw[show xs[k]?.getD 0=el xs k from rfl]at hc1 lo hi;cases hb:aP (el xs k)
   ·go_wp2_with (go_at_call 64;refine st (isWord _ _ lo hi) ?_;rw[hb]);go_ret;refine⟨rB ?_,rfl⟩;have hm:xs[k]'hlt∈xs:=List.getElem_mem hlt;have he:el xs k=xs[k]'hlt:=by simp[el,List.getElem?_eq_getElem hlt]
    rw[he]at hb;cases hq:xs.all aP
    ·rfl
    ·have:=List.all_eq_true.1 hq _ hm
     rw[hb]at this;cases this
   ·go_wp2_with (go_at_call 64;refine st (isWord _ _ lo hi) ?_;rw[hb]);go_round
    case rel=>exact⟨k+1,by omega,by go_num,kW HE.o hb⟩
    case measure=>simp[intOf];omega
  ·go_wp2;go_ret;refine⟨rB ?_,rfl⟩;symm;rw[List.all_eq_true];intro x hx;obtain⟨i,hi,rfl⟩:=List.getElem_of_mem hx;have:=HE.o i (by omega);simpa[el,List.getElem?_eq_getElem hi] using this
theorem zo (z k:Int) (w:World) (hz:z=1\/z=2):Calls prog 279 #[iv z,iv k] w fun e w'=>e=.returned (iv (byN z k))/\w'=w:=by
 by_cases h:k=3
 ·subst h;go_enter func279,ntmps279;go_wp2;go_ret;exact⟨rI (by simp[byN]),rfl⟩
 ·go_enter func279,ntmps279;go_wp2;go_ret;exact⟨rI (by rcases hz with rfl|rfl<;>simp[byN,h]),rfl⟩
theorem Ap (b:Bool) (f:Int) (w:World):Calls prog 242 #[.bool b,iv f] w fun e w'=>e=.returned (iv (fl1 b f))/\w'=w:=by
 cases b
 all_goals
  go_enter func242,ntmps242;go_wp2;go_ret;exact⟨rfl,rfl⟩
theorem nI (w:World) (d:Rg) (a b:Option Addr) (ca cb:Nat) (ha:Came w a d.xs) (hb:Came w b d.ys) (lx:d.xs.length<=2000000) (ly:d.ys.length<=2000000) (wfd:WfR d) :
  Calls prog 137 #[.agg #[.slice a d.xs.length ca,.slice b d.ys.length cb,iv d.o,iv d.p,iv d.f,iv d.m,.bool d.s,.bool d.t]] w fun e w'=>e=.returned (.bool (sN d))/\Kept 0 0 w w':=by
 have HA:=aba ha;have HB:=aba hb;have HK:=aba (kept_alloc w (.cells #[.slice a d.xs.length ca,.slice b d.ys.length cb,iv d.o,iv d.p,iv d.f,iv d.m,.bool d.s,.bool d.t] 35));clear ha hb;have G:Hid (sN d=((d.xs.all aP&&decide ((d.xs.length:Int)=4))&&((d.ys.all aP&&decide ((d.ys.length:Int)=4))&&(aP d.o&&(aP d.p&&(within d.f 0 31&&(decide (0<=d.m)&&decide (d.m<=7)))))))):=aba rfl;cases l1:((d.xs.length:Int)==4)
 ·have q1:decide ((d.xs.length:Int)=4)=false:=by simpa using l1
  go_enter func137,ntmps137;go_wp2;go_ret;exact⟨rB (by rw[G.o,q1];simp),HK.o⟩
 ·have q1:decide ((d.xs.length:Int)=4)=true:=by simpa using l1
  cases h2:d.xs.all aP
  ·have qh2:True:=trivial;go_enter func137,ntmps137;go_wp2_with (first|(go_at_call 190;refine st (eu _ a ca d.xs (HA.o.ag HK.o) lx) ?_;rw[h2];have Z1:True:=trivial));go_ret;exact⟨rB (by rw[G.o,q1,h2];simp),HK.o⟩
  ·have qh2:True:=trivial;cases l3:((d.ys.length:Int)==4)
   ·have q3:decide ((d.ys.length:Int)=4)=false:=by simpa using l3
    go_enter func137,ntmps137;go_wp2_with (first|(go_at_call 190;refine st (eu _ a ca d.xs (HA.o.ag HK.o) lx) ?_;rw[h2];have Z1:True:=trivial));go_ret;exact⟨rB (by rw[G.o,q1,h2,q3];simp),HK.o⟩
   ·have q3:decide ((d.ys.length:Int)=4)=true:=by simpa using l3
    cases h4:d.ys.all aP
    ·have qh4:True:=trivial;go_enter func137,ntmps137;go_wp2_with (first|(go_at_call 190;have z:=Z1;refine st (eu _ b cb d.ys (HB.o.ag HK.o) ly) ?_;rw[h4])|(go_at_call 190;refine st (eu _ a ca d.xs (HA.o.ag HK.o) lx) ?_;rw[h2];have Z1:True:=trivial));go_ret;exact⟨rB (by rw[G.o,q1,h2,q3,h4];simp),HK.o⟩
    ·have qh4:True:=trivial;cases h5:aP d.o
     ·have qh5:True:=trivial;go_enter func137,ntmps137;go_wp2_with (first|(go_at_call 190;have z:=Z1;refine st (eu _ b cb d.ys (HB.o.ag HK.o) ly) ?_;rw[h4])|(go_at_call 190;refine st (eu _ a ca d.xs (HA.o.ag HK.o) lx) ?_;rw[h2];have Z1:True:=trivial)|(go_at_call 64;refine st (isWord d.o _ (wfB wfd.o).1 (wfB wfd.o).2) ?_;rw[h5];have Z3:True:=trivial));go_ret;exact⟨rB (by rw[G.o,q1,h2,q3,h4,h5];simp),HK.o⟩
     ·have qh5:True:=trivial;cases h6:aP d.p
      ·have qh6:True:=trivial;go_enter func137,ntmps137;go_wp2_with (first|(go_at_call 190;have z:=Z1;refine st (eu _ b cb d.ys (HB.o.ag HK.o) ly) ?_;rw[h4])|(go_at_call 190;refine st (eu _ a ca d.xs (HA.o.ag HK.o) lx) ?_;rw[h2];have Z1:True:=trivial)|(go_at_call 64;have z:=Z3;refine st (isWord d.p _ (wfB wfd.p).1 (wfB wfd.p).2) ?_;rw[h6])|(go_at_call 64;refine st (isWord d.o _ (wfB wfd.o).1 (wfB wfd.o).2) ?_;rw[h5];have Z3:True:=trivial));go_ret;exact⟨rB (by rw[G.o,q1,h2,q3,h4,h5,h6];simp),HK.o⟩
      ·have qh6:True:=trivial;cases h7:within d.f 0 31
       ·have qh7:True:=trivial;go_enter func137,ntmps137;go_wp2_with (first|(go_at_call 190;have z:=Z1;refine st (eu _ b cb d.ys (HB.o.ag HK.o) ly) ?_;rw[h4])|(go_at_call 190;refine st (eu _ a ca d.xs (HA.o.ag HK.o) lx) ?_;rw[h2];have Z1:True:=trivial)|(go_at_call 64;have z:=Z3;refine st (isWord d.p _ (wfB wfd.p).1 (wfB wfd.p).2) ?_;rw[h6])|(go_at_call 64;refine st (isWord d.o _ (wfB wfd.o).1 (wfB wfd.o).2) ?_;rw[h5];have Z3:True:=trivial)|(go_at_call 191;refine st (rO d.f _) ?_;rw[h7]));go_ret;exact⟨rB (by rw[G.o,q1,h2,q3,h4,h5,h6,h7];simp),HK.o⟩
       ·have qh7:True:=trivial;cases h8:decide (0<=d.m)
        ·have qh8:True:=trivial;go_enter func137,ntmps137;go_wp2_with (first|(go_at_call 190;have z:=Z1;refine st (eu _ b cb d.ys (HB.o.ag HK.o) ly) ?_;rw[h4])|(go_at_call 190;refine st (eu _ a ca d.xs (HA.o.ag HK.o) lx) ?_;rw[h2];have Z1:True:=trivial)|(go_at_call 64;have z:=Z3;refine st (isWord d.p _ (wfB wfd.p).1 (wfB wfd.p).2) ?_;rw[h6])|(go_at_call 64;refine st (isWord d.o _ (wfB wfd.o).1 (wfB wfd.o).2) ?_;rw[h5];have Z3:True:=trivial)|(go_at_call 191;refine st (rO d.f _) ?_;rw[h7]));go_ret;exact⟨rB (by rw[G.o,q1,h2,q3,h4,h5,h6,h7,h8];simp),HK.o⟩
        ·have qh8:True:=trivial;cases h9:decide (d.m<=7)
         ·have qh9:True:=trivial;go_enter func137,ntmps137;go_wp2_with (first|(go_at_call 190;have z:=Z1;refine st (eu _ b cb d.ys (HB.o.ag HK.o) ly) ?_;rw[h4])|(go_at_call 190;refine st (eu _ a ca d.xs (HA.o.ag HK.o) lx) ?_;rw[h2];have Z1:True:=trivial)|(go_at_call 64;have z:=Z3;refine st (isWord d.p _ (wfB wfd.p).1 (wfB wfd.p).2) ?_;rw[h6])|(go_at_call 64;refine st (isWord d.o _ (wfB wfd.o).1 (wfB wfd.o).2) ?_;rw[h5];have Z3:True:=trivial)|(go_at_call 191;refine st (rO d.f _) ?_;rw[h7]));go_ret;exact⟨rB (by rw[G.o,q1,h2,q3,h4,h5,h6,h7,h8,h9];simp),HK.o⟩
         ·have qh9:True:=trivial;go_enter func137,ntmps137;go_wp2_with (first|(go_at_call 190;have z:=Z1;refine st (eu _ b cb d.ys (HB.o.ag HK.o) ly) ?_;rw[h4])|(go_at_call 190;refine st (eu _ a ca d.xs (HA.o.ag HK.o) lx) ?_;rw[h2];have Z1:True:=trivial)|(go_at_call 64;have z:=Z3;refine st (isWord d.p _ (wfB wfd.p).1 (wfB wfd.p).2) ?_;rw[h6])|(go_at_call 64;refine st (isWord d.o _ (wfB wfd.o).1 (wfB wfd.o).2) ?_;rw[h5];have Z3:True:=trivial)|(go_at_call 191;refine st (rO d.f _) ?_;rw[h7]));go_ret;exact⟨rB (by rw[G.o,q1,h2,q3,h4,h5,h6,h7,h8,h9];simp),HK.o⟩
def bkR (r:Rg):Array Value:=#[iv (el r.xs 0),iv (el r.xs 1),iv (el r.xs 2),iv (el r.xs 3),iv (el r.ys 0),iv (el r.ys 1),iv (el r.ys 2),iv (el r.ys 3),iv r.o,iv r.p,iv r.f,iv r.m,.bool r.s,.bool r.t]
theorem RV (r:Rg):(bkR r).all (·.oneCell')=true:=by simp[bkR,Value.oneCell']
theorem wM (r:Rg):(prog.info? 151).map (·.size)=some (bkR r).size:=by
 have:(prog.info? 151).map (·.size)=some 14:=by kernel_rfl
 exact this
theorem list4 {xs:List Int} (h:xs.length=4):xs=[el xs 0,el xs 1,el xs 2,el xs 3]:=by
 match xs,h with
 | [a,b,c,d],_=>rfl
theorem mk4 (w:World):(Instr.makeSlice 22 (iv 4) (iv 4)).run prog w=.ok (.slice (some (abb w.heap.size 0)) 4 4) (w.alloc (.cells #[iv 0,iv 0,iv 0,iv 0] 3)):=by kernel_rfl
theorem PW (x0 x1 x2 x3:Int) (w:World) :
  Calls prog 180 #[.agg #[iv x0,iv x1,iv x2,iv x3]] w fun e w'=>e=.returned (.slice (some (abb (w.heap.size+1) 0)) 4 4)/\Blk w' (w.heap.size+1) (cellsOf [x0,x1,x2,x3]) 3/\Kept 0 0 w w':=by
 have B0:Blk ((w.alloc (.cells #[iv x0,iv x1,iv x2,iv x3] 149)).alloc (.cells #[iv 0,iv 0,iv 0,iv 0] 3)) w.heap.size (cellsOf [x0,x1,x2,x3]) 149:=(Blk.new w #[iv x0,iv x1,iv x2,iv x3] 149).alloc _;have B1:=Blk.new (w.alloc (.cells #[iv x0,iv x1,iv x2,iv x3] 149)) #[iv 0,iv 0,iv 0,iv 0] 3;simp only[World.size_alloc]at B1;obtain⟨W1,hcopy,C1,k1⟩:=yR _ (w.heap.size+1) 0 4 4 4 (some (abb w.heap.size 0)) [x0,x1,x2,x3] [iv 0,iv 0,iv 0,iv 0] 3 B1 (iF B0).row (by simp) (by simp);have hc:(Builtin.copy_ #[22,22] 3 #[.slice (some (abb (w.heap.size+1) 0)) 4 4,.slice (some (abb w.heap.size 0)) 4 4]).run prog ((w.alloc (.cells #[iv x0,iv x1,iv x2,iv x3] 149)).alloc (.cells #[iv 0,iv 0,iv 0,iv 0] 3))=.ok (iv 4) W1:=hcopy;have C:=aba (show Blk W1 (w.heap.size+1) (cellsOf [x0,x1,x2,x3]) 3 from C1);have K:=aba (aB (ah (kept_alloc w _) _) k1 (by omega));clear B0 B1 hcopy C1 k1;have mk:=mk4;go_enter func180,ntmps180;go_wp2;go_ret;exact⟨rfl,C.o,K.o⟩
theorem V4 (w:World) (d:Rg) (a b:Option Addr) (ca cb:Nat) (ha:aF w a d.xs) (hb:aF w b d.ys) (lx:d.xs.length=4) (ly:d.ys.length=4) :
  Calls prog 121 #[.agg #[.slice a d.xs.length ca,.slice b d.ys.length cb,iv d.o,iv d.p,iv d.f,iv d.m,.bool d.s,.bool d.t]] w fun e w'=>e=.returned (.agg (bkR d))/\Kept 0 0 w w':=by
 rw[lx,ly];obtain⟨W0,h0⟩:∃W:World,W=((w.alloc (.cells #[.slice a 4 ca,.slice b 4 cb,iv d.o,iv d.p,iv d.f,iv d.m,.bool d.s,.bool d.t] 35)).alloc (.cells #[iv 0,iv 0,iv 0,iv 0,iv 0,iv 0,iv 0,iv 0,iv 0,iv 0,iv 0,iv 0,.bool false,.bool false] 151)).alloc (.cells #[iv 0,iv 0,iv 0,iv 0,iv 0,iv 0,iv 0,iv 0,iv d.o,iv d.p,iv d.f,iv d.m,.bool d.s,.bool d.t] 151):=⟨_,rfl⟩
 have R0:Blk W0 w.heap.size #[.slice a 4 ca,.slice b 4 cb,iv d.o,iv d.p,iv d.f,iv d.m,.bool d.s,.bool d.t] 35:=by rw[h0];exact((Blk.new w _ _).alloc _).alloc _
 have Z0:Blk W0 (w.heap.size+1) #[iv 0,iv 0,iv 0,iv 0,iv 0,iv 0,iv 0,iv 0,iv 0,iv 0,iv 0,iv 0,.bool false,.bool false] 151:=by
  rw[h0];have:=Blk.new (w.alloc (.cells #[.slice a 4 ca,.slice b 4 cb,iv d.o,iv d.p,iv d.f,iv d.m,.bool d.s,.bool d.t] 35)) #[iv 0,iv 0,iv 0,iv 0,iv 0,iv 0,iv 0,iv 0,iv 0,iv 0,iv 0,iv 0,.bool false,.bool false] 151;simp only[World.size_alloc]at this;exact this.alloc _
 have B0:Blk W0.drew (w.heap.size+1+1) #[iv 0,iv 0,iv 0,iv 0,iv 0,iv 0,iv 0,iv 0,iv d.o,iv d.p,iv d.f,iv d.m,.bool d.s,.bool d.t] 151:=by
  rw[h0];have:=Blk.new ((w.alloc (.cells #[.slice a 4 ca,.slice b 4 cb,iv d.o,iv d.p,iv d.f,iv d.m,.bool d.s,.bool d.t] 35)).alloc (.cells #[iv 0,iv 0,iv 0,iv 0,iv 0,iv 0,iv 0,iv 0,iv 0,iv 0,iv 0,iv 0,.bool false,.bool false] 151)) #[iv 0,iv 0,iv 0,iv 0,iv 0,iv 0,iv 0,iv 0,iv d.o,iv d.p,iv d.f,iv d.m,.bool d.s,.bool d.t] 151;simp only[World.size_alloc]at this;exact this
 have K0:Kept 0 0 w W0.drew:=by rw[h0];exact ai (ah (ah (kept_alloc w _) _) _)
 have r00:=R0.cell (i:=0) rfl;have r01:=R0.cell (i:=1) rfl;obtain⟨W1,hc1,B1,k1⟩:=yR W0.drew (w.heap.size+1+1) 0 4 4 ca a d.xs _ _ B0 (ha.ag K0) (by omega) (by rw[lx];simp);have K1:Kept 0 0 w W1.drew:=ai (aB K0 k1 (by omega));have R1:Blk W1 w.heap.size #[.slice a 4 ca,.slice b 4 cb,iv d.o,iv d.p,iv d.f,iv d.m,.bool d.s,.bool d.t] 35:=Blk.kept (show Blk W0.drew _ _ _ from R0) k1 (by omega);have r11:=R1.cell (i:=1) rfl;obtain⟨W2,hc2,B2,k2⟩:=yR W1.drew (w.heap.size+1+1) 4 4 4 cb b d.ys _ _ (show Blk W1.drew _ _ _ from B1) (hb.ag K1) (by omega) (by rw[ly,length_splice _ _ _ (by simp[lx])];simp);have Z1:=Blk.kept (show Blk W0.drew _ _ _ from Z0) k1 (by omega);have Z2:=aba (Blk.kept (show Blk W1.drew _ _ _ from Z1) k2 (by omega));have K2:=aba (aB K1 k2 (by omega));rw[lx]at hc1;rw[ly]at hc2
 have D2:Hid (Blk W2 (w.heap.size+1+1) (bkR d) 151):=aba (by
  rw[list4 lx,list4 ly]at B2
  exact B2)
 clear B0 B1 B2 k1 k2 K0 K1 R0 Z0 R1 Z1;go_enter func121,ntmps121;go_wp2_with fail;rw[<-h0];clear h0;go_region;go_wp2_with fail;go_region;go_wp2_with (first|(refine wpList_load_row rfl 151 (.tmp 3) rfl (w.heap.size+1+1) rfl 151 (bkR d) (0,0) _ D2.o underlying151 rfl (wM d) ?_)|(refine wpList_store_row rfl 151 (.tmp 2) (.tmp 27) rfl (w.heap.size+1) (bkR d) rfl rfl 151 _ Z2.o (wM d) rfl (RV d) ?_));refine bodyPost_ret (v:=.agg (bkR d)) ?_ rfl ⟨rfl,lM K2.o _ _ (by omega)⟩;exact results_cell_row rfl _ _ _ _ _ (0,0) _ rfl Z2.o.setRow underlying151 rfl (wM d)
theorem bkX {r:Rg} (h:r.xs.length=4) {k:Nat} (hk:k<4) (z:Int):bkR {r with xs:=r.xs.set k z}=(bkR r).setIfInBounds k (iv z):=by
 obtain⟨xs,ys,o,p,f,m,s,t⟩:=r
 match xs,h with
 | [a,b,c,d],_=>
  have:k=0\/k=1\/k=2\/k=3:=by omega
  rcases this with rfl|rfl|rfl|rfl<;>rfl
theorem bkY {r:Rg} (h:r.ys.length=4) {k:Nat} (hk:k<4) (z:Int):bkR {r with ys:=r.ys.set k z}=(bkR r).setIfInBounds (4+k) (iv z):=by
 obtain⟨xs,ys,o,p,f,m,s,t⟩:=r
 match ys,h with
 | [a,b,c,d],_=>
  have:k=0\/k=1\/k=2\/k=3:=by omega
  rcases this with rfl|rfl|rfl|rfl<;>rfl
theorem RZ (x:Nat):x &&& 18446744073709551360=x/256%72057594037927936*256:=by
 apply Nat.eq_of_testBit_eq;intro i;rw[Nat.testBit_and,show(18446744073709551360:Nat)=(2^56-1)*2^8 from by decide,Nat.testBit_mul_two_pow,Nat.testBit_two_pow_sub_one,show x/256%72057594037927936*256=x/2^8%2^56*2^8 from rfl,Nat.testBit_mul_two_pow,Nat.testBit_mod_two_pow,Nat.testBit_div_two_pow];by_cases h:8<=i
 ·have e:i-8+8=i:=by omega
  simp[h,e,Bool.and_comm]
 ·simp[h]
theorem H8 {x:Int} (h0:0<=x) (h1:x<=65535):bits .andNot .i64 x 255=x/256*256:=by
 show IntKind.i64.wrap ((BitVec.ofInt 64 x &&& ~~~ BitVec.ofInt 64 255).toNat:Int)=_
 rw[BitVec.toNat_and,BitVec.toNat_ofInt,show(~~~ BitVec.ofInt 64 255).toNat=18446744073709551360 from by decide,RZ,IntKind.wrap_i64];omega
theorem Uz (x y:Int):bits .or .i64 x y=bits .or .i64 y x:=by
 show IntKind.i64.wrap ((BitVec.ofInt 64 x ||| BitVec.ofInt 64 y).toNat:Int)=IntKind.i64.wrap ((BitVec.ofInt 64 y ||| BitVec.ofInt 64 x).toNat:Int)
 rw[BitVec.or_comm]
theorem AZ {x v:Int} (h0:0<=x) (h1:x<=65535) (v0:0<=v) (v1:v<=255):bits .or .i64 v (bits .andNot .i64 x 255)=x/256*256+v:=by
 rw[H8 h0 h1,Uz];exact bits_join .i64 62 (by decide) Pl.ik 8 (x/256*256) v (by omega) (by omega) (by omega) (by omega) (by omega) (by omega)
structure Tl where
 c:Array Value
 y:TypeId
structure Hl where
 a:Bool
 t:Tl
abbrev tl0:Tl:=⟨#[],159⟩
def cor (r:Rg) (xs:List Int) (u:Value) (st:Bool) (ha:Hl):Array Value:=bkR r++(cellsOf xs++(#[u,.bool st,.bool ha.a]++ha.t.c))
theorem set_left {A B:Array Value} {i:Nat} (h:i<A.size) (v:Value):(A++B).setIfInBounds i v=A.setIfInBounds i v++B:=by
 apply Array.ext_getElem?;intro j;simp only[Array.getElem?_setIfInBounds,Array.getElem?_append,Array.size_append,Array.size_setIfInBounds];by_cases e:i=j
 ·subst e;simp[h];omega
 ·simp[e]
theorem set_right {A B:Array Value} (i:Nat) (v:Value):(A++B).setIfInBounds (A.size+i) v=A++B.setIfInBounds i v:=by
 apply Array.ext_getElem?;intro j;simp only[Array.getElem?_setIfInBounds,Array.getElem?_append,Array.size_append];by_cases e:A.size+i=j
 ·subst e;simp;omega
 ·by_cases h:j<A.size
  ·simp[e,h]
  ·simp[e,h,show ¬i=j-A.size by omega]
theorem Since.mine {w a b:World} {lo hi x y g g':Nat} (h:Since w lo hi g a g') (k:Kept x y a b) (hx:w.heap.size<=x):Since w lo hi g b g':=
 ⟨h.1,⟨k.os.trans h.2.os,k.tape.trans h.2.tape,k.output.trans h.2.output,Nat.le_trans h.2.size k.size,fun i hi' hn=>(k.block i (Nat.lt_of_lt_of_le hi' h.2.size) (by omega)).trans (h.2.block i hi' hn)⟩⟩
section
variable {r:Rg} {xs:List Int} {u:Value} {st:Bool} {ha:Hl}
theorem pW {x:Bool} (hl:xs.length=512):(cor r xs u st ⟨x,tl0⟩).size=529:=by
 have:(bkR r).size=14:=rfl
 simp[cor,this,cellsOf_size,hl]
theorem yQ {i:Nat} (h:i<14):(cor r xs u st ha)[i]? = (bkR r)[i]? := Array.getElem?_append_left h
theorem Nl (i:Nat):(cor r xs u st ha)[14+i]? = (cellsOf xs++(#[u,.bool st,.bool ha.a]++ha.t.c))[i]? := by
 have:=Array.getElem?_append_right (xs:=bkR r) (ys:=cellsOf xs++(#[u,.bool st,.bool ha.a]++ha.t.c)) (i:=14+i) (Nat.le_add_right 14 i)
 rw[show 14+i-(bkR r).size=i from Nat.add_sub_cancel_left 14 i]at this;exact this
theorem wG {i:Nat} (hi:i<xs.length):(cor r xs u st ha)[14+i]? = some (iv (el xs i)):=by
 rw[Nl,Array.getElem?_append_left (by rw[cellsOf_size];exact hi)];simp[cellsOf,el,hi]
theorem yP (hl:xs.length=512) (i:Nat):(cor r xs u st ha)[14+(512+i)]? = ((#[u,.bool st,.bool ha.a]++ha.t.c:Array Value))[i]? := by
 rw[Nl,Array.getElem?_append_right (by rw[cellsOf_size,hl];omega),cellsOf_size,hl,Nat.add_sub_cancel_left]
theorem kQ (hl:xs.length=512):(cor r xs u st ha)[526]? = some u:=(yP hl 0).trans (Array.getElem?_append_left (by simp))
theorem MS (hl:xs.length=512):(cor r xs u st ha)[527]? = some (.bool st):=(yP hl 1).trans (Array.getElem?_append_left (by simp))
theorem Np (hl:xs.length=512):(cor r xs u st ha)[528]? = some (.bool ha.a):=(yP hl 2).trans (Array.getElem?_append_left (by simp))
theorem Dn (hl:xs.length=512) (i:Nat):(cor r xs u st ha)[529+i]? = ha.t.c[i]? := by
 rw[show 529+i=14+(512+(3+i)) by omega];refine(yP hl (3+i)).trans ((Array.getElem?_append_right (by simp)).trans ?_);simp
theorem Hg {i:Nat} (v:Int):(cellsOf xs).setIfInBounds i (iv v)=cellsOf (xs.set i v):=by
 simp[cellsOf,List.map_set]
theorem Nh {i:Nat} {z:Int} (hi:i<xs.length):(cor r xs u st ha).setIfInBounds (14+i) (iv z)=cor r (xs.set i z) u st ha:=by
 show(bkR r++_).setIfInBounds ((bkR r).size+i) _=_
 rw[set_right,set_left (by rw[cellsOf_size];exact hi),Hg];rfl
theorem MW (hl:xs.length=512) (u':Value):(cor r xs u st ha).setIfInBounds 526 u'=cor r xs u' st ha:=by
 show(bkR r++_).setIfInBounds ((bkR r).size+512) _=_
 have e:=set_right (A:=cellsOf xs) (B:=(#[u,.bool st,.bool ha.a]++ha.t.c)) 0 u';rw[cellsOf_size,hl]at e;rw[set_right,show(512:Nat)=512+0 from rfl,e,set_left (by simp)];rfl
theorem Na (hl:xs.length=512) (s':Bool):(cor r xs u st ha).setIfInBounds 527 (.bool s')=cor r xs u s' ha:=by
 show(bkR r++_).setIfInBounds ((bkR r).size+513) _=_
 have e:=set_right (A:=cellsOf xs) (B:=(#[u,.bool st,.bool ha.a]++ha.t.c)) 1 (.bool s');rw[cellsOf_size,hl]at e;rw[set_right,show(513:Nat)=512+1 from rfl,e,set_left (by simp)];rfl
theorem MX (hl:xs.length=512) (i:Nat) (v:Value):(cor r xs u st ha).setIfInBounds (529+i) v=cor r xs u st ⟨ha.a,⟨ha.t.c.setIfInBounds i v,ha.t.y⟩⟩:=by
 rw[show 529+i=(bkR r).size+(512+(3+i)) by have:(bkR r).size=14:=rfl;omega];have e:=set_right (A:=cellsOf xs) (B:=#[u,.bool st,.bool ha.a]++ha.t.c) (3+i) v;rw[cellsOf_size,hl]at e;have e2:=set_right (A:=#[u,.bool st,.bool ha.a]) (B:=ha.t.c) i v;rw[show(#[u,.bool st,.bool ha.a]:Array Value).size=3 from rfl]at e2;show(bkR r++_).setIfInBounds _ _=_;rw[set_right,e,e2];rfl
theorem Nb {r':Rg} {i:Nat} {v:Value} (hi:i<14) (h:bkR r'=(bkR r).setIfInBounds i v):(cor r xs u st ha).setIfInBounds i v=cor r' xs u st ha:=by
 show(bkR r++_).setIfInBounds i v=_
 rw[set_left hi,<-h];rfl
end
theorem TJ {r:Rg} {k:Nat} (hk:k<4):(bkR r)[k]? = some (iv (el r.xs k))/\(bkR r)[4+k]? = some (iv (el r.ys k)):=by
 have:k=0\/k=1\/k=2\/k=3:=by omega
 rcases this with rfl|rfl|rfl|rfl<;>exact⟨rfl,rfl⟩
def CBk (w:World) (b g cu:Nat) (c:Mc) (h:Hl):Prop:=Blk w b (cor c.r c.bx (.slice (some (abb g 0)) c.bm cu) c.st h) h.t.y
structure CLg (w:World) (lo b g cu:Nat) (bl:List Int) (bm:Nat):Prop where
 l:w.ownsRow lo 179 5 (.slice (some (abb g 0)) bm cu) bm (bl.map (Value.int .i64))
 lo':lo<=b
 ne:b≠g
def CAt (w:World) (lo b g:Nat) (c:Mc) (h:Hl):Prop:=∃cu:Nat,CBk w b g cu c h/\CLg w lo b g cu c.bl c.bm
section
variable {w w':World} {lo b g cu:Nat} {c:Mc} {h:Hl} {bl:List Int} {bm:Nat}
theorem CLg.own (o:CLg w lo b g cu bl bm) (k:Kept b (b+1) w w'):CLg w' lo b g cu bl bm:=⟨bg o.l k (by have:=o.ne;omega),o.lo',o.ne⟩
theorem CLg.any (o:CLg w lo b g cu bl bm) (k:Kept 0 0 w w'):CLg w' lo b g cu bl bm:=⟨bg o.l k (by omega),o.lo',o.ne⟩
theorem CLg.lt (o:CLg w lo b g cu bl bm):lo<=g/\g<w.heap.size:=o.l.lt g rfl
theorem CAt.lt (a:CAt w lo b g c h):lo<=b/\b<w.heap.size/\lo<=g/\g<w.heap.size/\b≠g:=by
 obtain⟨cu,hB,hO⟩:=a;have:=hO.lt;exact⟨hO.lo',Blk.lt hB,this.1,this.2,hO.ne⟩
theorem CAt.any (a:CAt w lo b g c h) (k:Kept 0 0 w w'):CAt w' lo b g c h:=by
 obtain⟨cu,hB,hO⟩:=a;exact⟨cu,Blk.ae hB k,hO.any k⟩
theorem CAt.alloc (a:CAt w lo b g c h) (o:Obj):CAt (w.alloc o) lo b g c h:=a.any (kept_alloc w o)
theorem CAt.drew (a:CAt w lo b g c h):CAt w.drew lo b g c h:=a.any (ai (Kept.refl _ _ _))
theorem CAt.other (a:CAt w lo b g c h) (q i:Nat) (v:Value) (h1:q≠b) (h2:q≠g):CAt (w.setCell ⟨q,i,none⟩ v) lo b g c h:=by
 obtain⟨cu,hB,hO⟩:=a;have k:=af (Kept.refl q (q+1) w) q i v (.inl (by omega));exact⟨cu,Blk.kept hB k (by omega),⟨bg hO.l k (by omega),hO.lo',hO.ne⟩⟩
theorem CAt.kept {x y:Nat} (a:CAt w lo b g c h) (k:Kept x y w w') (h1:¬(x<=b/\b<y)) (h2:¬(x<=g/\g<y)):CAt w' lo b g c h:=by
 obtain⟨cu,hB,hO⟩:=a;exact⟨cu,Blk.kept hB k h1,⟨bg hO.l k h2,hO.lo',hO.ne⟩⟩
theorem CAt.reg {r':Rg} (a:CAt w lo b g c h) {i:Nat} {v:Value} (hi:i<14) (e:bkR r'=(bkR c.r).setIfInBounds i v):CAt (w.setCell ⟨b,i,none⟩ v) lo b g (c.bC r') h:=by
 obtain⟨cu,hB,hO⟩:=a;refine⟨cu,?_,hO.own (ak w b i v)⟩;have:=Blk.set hB i v;rw[Nb hi e]at this;exact this
theorem CAt.zy (a:CAt w lo b g c h) (l4:c.r.xs.length=4) {k:Nat} (hk:k<4) (v:Int):CAt (w.setCell ⟨b,k,none⟩ (iv v)) lo b g (c.bC {c.r with xs:=c.r.xs.set k v}) h:=a.reg (by omega) (bkX l4 hk v)
theorem CAt.vz (a:CAt w lo b g c h) (l4:c.r.ys.length=4) {k:Nat} (hk:k<4) (v:Int):CAt (w.setCell ⟨b,4+k,none⟩ (iv v)) lo b g (c.fC k v) h:=a.reg (r':={c.r with ys:=c.r.ys.set k v}) (by omega) (bkY l4 hk v)
theorem CAt.aH (a:CAt w lo b g c h) (v:Int):CAt (w.setCell (abb b 9) (iv v)) lo b g (c.aH v) h:=a.reg (r':={c.r with p:=v}) (by omega) rfl
theorem CAt.aJ (a:CAt w lo b g c h) (v:Int):CAt (w.setCell (abb b 10) (iv v)) lo b g (c.aJ v) h:=a.reg (r':={c.r with f:=v}) (by omega) rfl
theorem CAt.Xa (a:CAt w lo b g c h) (l:c.bx.length=512) (v:Bool):CAt (w.setCell (abb b 527) (.bool v)) lo b g {c with st:=v} h:=by
 obtain⟨cu,hB,hO⟩:=a;refine⟨cu,?_,hO.own (ak w b 527 (.bool v))⟩;have:=Blk.set hB 527 (.bool v);rw[Na l]at this;exact this
theorem CAt.cX (a:CAt w lo b g c h) {k:Nat} (hk:k<4):w.cell? ⟨b,k,none⟩=some (iv (el c.r.xs k)):=by
 obtain⟨cu,hB,hO⟩:=a;exact Blk.cell hB ((yQ (by omega)).trans (TJ hk).1)
theorem CAt.cY (a:CAt w lo b g c h) {k:Nat} (hk:k<4):w.cell? ⟨b,4+k,none⟩=some (iv (el c.r.ys k)):=by
 obtain⟨cu,hB,hO⟩:=a;exact Blk.cell hB ((yQ (by omega)).trans (TJ hk).2)
theorem CAt.cR (a:CAt w lo b g c h) {i:Nat} {v:Value} (hi:i<14) (e:(bkR c.r)[i]? = some v):w.cell? ⟨b,i,none⟩=some v:=by
 obtain⟨cu,hB,hO⟩:=a;exact Blk.cell hB ((yQ hi).trans e)
theorem CAt.cO (a:CAt w lo b g c h):w.cell? (abb b 8)=some (iv c.r.o):=a.cR (by omega) rfl
theorem CAt.cP (a:CAt w lo b g c h):w.cell? (abb b 9)=some (iv c.r.p):=a.cR (by omega) rfl
theorem CAt.cF (a:CAt w lo b g c h):w.cell? (abb b 10)=some (iv c.r.f):=a.cR (by omega) rfl
theorem CAt.cM (a:CAt w lo b g c h):w.cell? (abb b 11)=some (iv c.r.m):=a.cR (by omega) rfl
theorem CAt.cS (a:CAt w lo b g c h):w.cell? (abb b 12)=some (.bool c.r.s):=a.cR (by omega) rfl
theorem CAt.cT (a:CAt w lo b g c h):w.cell? (abb b 13)=some (.bool c.r.t):=a.cR (by omega) rfl
theorem CAt.cSt (a:CAt w lo b g c h) (l:c.bx.length=512):w.cell? (abb b 527)=some (.bool c.st):=by
 obtain⟨cu,hB,hO⟩:=a;exact Blk.cell hB (MS l)
theorem CAt.cH (a:CAt w lo b g c h) (l:c.bx.length=512):w.cell? (abb b 528)=some (.bool h.a):=by
 obtain⟨cu,hB,hO⟩:=a;exact Blk.cell hB (Np l)
theorem CAt.cTl (a:CAt w lo b g c h) (l:c.bx.length=512) {i:Nat} {v:Value} (e:h.t.c[i]? = some v):w.cell? ⟨b,529+i,none⟩=some v:=by
 obtain⟨cu,hB,hO⟩:=a;exact Blk.cell hB ((Dn l i).trans e)
theorem CAt.ZI (a:CAt w lo b g c h) (l:c.bx.length=512) (i:Nat) (v:Value):CAt (w.setCell ⟨b,529+i,none⟩ v) lo b g c ⟨h.a,⟨h.t.c.setIfInBounds i v,h.t.y⟩⟩:=by
 obtain⟨cu,hB,hO⟩:=a;refine⟨cu,?_,hO.own (ak w b _ v)⟩;have:=Blk.set hB (529+i) v;rw[MX l]at this;exact this
theorem CAt.fz (a:CAt w lo b g c h) (i:Nat):w.frozen? ⟨b,i,none⟩=false:=by
 obtain⟨cu,hB,hO⟩:=a;exact Blk.frozen hB i
end
theorem CAt.lw {w:World} {lo b g:Nat} {c:Mc} {h:Hl} (hC:CAt w lo b g c h) (op z r m k e s:Int):∃X:World,(w.alloc (.cells (inA op z r m k e s) 48)).alloc (.cells ftZ 42)=X/\Hid (Kept 0 0 w X)/\Hid (CAt X lo b g c h)/\Hid (Blk X w.heap.size (inA op z r m k e s) 48)/\Hid (Blk X (w.heap.size+1) ftZ 42)/\w.heap.size+1<X.heap.size:=by
 have R:=Blk.new (w.alloc (.cells (inA op z r m k e s) 48)) ftZ 42;rw[World.size_alloc]at R;exact⟨_,rfl,aba ((kept_alloc w _).trans (kept_alloc _ _)),aba ((hC.alloc _).alloc _),aba ((Blk.new w (inA op z r m k e s) _).alloc _),aba R,R.lt⟩
theorem Blk.TK {w:World} {b:Nat} {u0 u1 u2 u3 u4 u5 u6 u7 u8 u9 u10 u11 u12 u13 v0 v1 v2 v3 v4 v5 v6 v7 v8 v9 v10 v11 v12 v13:Value} {B:Array Value} {ty:TypeId} (h:Blk w b (#[u0,u1,u2,u3,u4,u5,u6,u7,u8,u9,u10,u11,u12,u13]++B) ty):Blk ((((((((((((((w.setCell (abb b 0) (v0)).setCell (abb b 1) (v1)).setCell (abb b 2) (v2)).setCell (abb b 3) (v3)).setCell (abb b 4) (v4)).setCell (abb b 5) (v5)).setCell (abb b 6) (v6)).setCell (abb b 7) (v7)).setCell (abb b 8) (v8)).setCell (abb b 9) (v9)).setCell (abb b 10) (v10)).setCell (abb b 11) (v11)).setCell (abb b 12) (v12)).setCell (abb b 13) (v13)) b (#[v0,v1,v2,v3,v4,v5,v6,v7,v8,v9,v10,v11,v12,v13]++B) ty:=by
 have h0:Blk (w.setCell (abb b 0) v0) b (#[v0,u1,u2,u3,u4,u5,u6,u7,u8,u9,u10,u11,u12,u13]++B) ty:=by have q:=Blk.set h 0 v0;rw[set_left (by simp)]at q;exact q
 have h1:Blk ((w.setCell (abb b 0) v0).setCell (abb b 1) v1) b (#[v0,v1,u2,u3,u4,u5,u6,u7,u8,u9,u10,u11,u12,u13]++B) ty:=by have q:=Blk.set h0 1 v1;rw[set_left (by simp)]at q;exact q
 have h2:Blk (((w.setCell (abb b 0) v0).setCell (abb b 1) v1).setCell (abb b 2) v2) b (#[v0,v1,v2,u3,u4,u5,u6,u7,u8,u9,u10,u11,u12,u13]++B) ty:=by have q:=Blk.set h1 2 v2;rw[set_left (by simp)]at q;exact q
 have h3:Blk ((((w.setCell (abb b 0) v0).setCell (abb b 1) v1).setCell (abb b 2) v2).setCell (abb b 3) v3) b (#[v0,v1,v2,v3,u4,u5,u6,u7,u8,u9,u10,u11,u12,u13]++B) ty:=by have q:=Blk.set h2 3 v3;rw[set_left (by simp)]at q;exact q
 have h4:Blk (((((w.setCell (abb b 0) v0).setCell (abb b 1) v1).setCell (abb b 2) v2).setCell (abb b 3) v3).setCell (abb b 4) v4) b (#[v0,v1,v2,v3,v4,u5,u6,u7,u8,u9,u10,u11,u12,u13]++B) ty:=by have q:=Blk.set h3 4 v4;rw[set_left (by simp)]at q;exact q
 have h5:Blk ((((((w.setCell (abb b 0) v0).setCell (abb b 1) v1).setCell (abb b 2) v2).setCell (abb b 3) v3).setCell (abb b 4) v4).setCell (abb b 5) v5) b (#[v0,v1,v2,v3,v4,v5,u6,u7,u8,u9,u10,u11,u12,u13]++B) ty:=by have q:=Blk.set h4 5 v5;rw[set_left (by simp)]at q;exact q
 have h6:Blk (((((((w.setCell (abb b 0) v0).setCell (abb b 1) v1).setCell (abb b 2) v2).setCell (abb b 3) v3).setCell (abb b 4) v4).setCell (abb b 5) v5).setCell (abb b 6) v6) b (#[v0,v1,v2,v3,v4,v5,v6,u7,u8,u9,u10,u11,u12,u13]++B) ty:=by have q:=Blk.set h5 6 v6;rw[set_left (by simp)]at q;exact q
 have h7:Blk ((((((((w.setCell (abb b 0) v0).setCell (abb b 1) v1).setCell (abb b 2) v2).setCell (abb b 3) v3).setCell (abb b 4) v4).setCell (abb b 5) v5).setCell (abb b 6) v6).setCell (abb b 7) v7) b (#[v0,v1,v2,v3,v4,v5,v6,v7,u8,u9,u10,u11,u12,u13]++B) ty:=by have q:=Blk.set h6 7 v7;rw[set_left (by simp)]at q;exact q
 have h8:Blk (((((((((w.setCell (abb b 0) v0).setCell (abb b 1) v1).setCell (abb b 2) v2).setCell (abb b 3) v3).setCell (abb b 4) v4).setCell (abb b 5) v5).setCell (abb b 6) v6).setCell (abb b 7) v7).setCell (abb b 8) v8) b (#[v0,v1,v2,v3,v4,v5,v6,v7,v8,u9,u10,u11,u12,u13]++B) ty:=by have q:=Blk.set h7 8 v8;rw[set_left (by simp)]at q;exact q
 have h9:Blk ((((((((((w.setCell (abb b 0) v0).setCell (abb b 1) v1).setCell (abb b 2) v2).setCell (abb b 3) v3).setCell (abb b 4) v4).setCell (abb b 5) v5).setCell (abb b 6) v6).setCell (abb b 7) v7).setCell (abb b 8) v8).setCell (abb b 9) v9) b (#[v0,v1,v2,v3,v4,v5,v6,v7,v8,v9,u10,u11,u12,u13]++B) ty:=by have q:=Blk.set h8 9 v9;rw[set_left (by simp)]at q;exact q
 have h10:Blk (((((((((((w.setCell (abb b 0) v0).setCell (abb b 1) v1).setCell (abb b 2) v2).setCell (abb b 3) v3).setCell (abb b 4) v4).setCell (abb b 5) v5).setCell (abb b 6) v6).setCell (abb b 7) v7).setCell (abb b 8) v8).setCell (abb b 9) v9).setCell (abb b 10) v10) b (#[v0,v1,v2,v3,v4,v5,v6,v7,v8,v9,v10,u11,u12,u13]++B) ty:=by have q:=Blk.set h9 10 v10;rw[set_left (by simp)]at q;exact q
 have h11:Blk ((((((((((((w.setCell (abb b 0) v0).setCell (abb b 1) v1).setCell (abb b 2) v2).setCell (abb b 3) v3).setCell (abb b 4) v4).setCell (abb b 5) v5).setCell (abb b 6) v6).setCell (abb b 7) v7).setCell (abb b 8) v8).setCell (abb b 9) v9).setCell (abb b 10) v10).setCell (abb b 11) v11) b (#[v0,v1,v2,v3,v4,v5,v6,v7,v8,v9,v10,v11,u12,u13]++B) ty:=by have q:=Blk.set h10 11 v11;rw[set_left (by simp)]at q;exact q
 have h12:Blk (((((((((((((w.setCell (abb b 0) v0).setCell (abb b 1) v1).setCell (abb b 2) v2).setCell (abb b 3) v3).setCell (abb b 4) v4).setCell (abb b 5) v5).setCell (abb b 6) v6).setCell (abb b 7) v7).setCell (abb b 8) v8).setCell (abb b 9) v9).setCell (abb b 10) v10).setCell (abb b 11) v11).setCell (abb b 12) v12) b (#[v0,v1,v2,v3,v4,v5,v6,v7,v8,v9,v10,v11,v12,u13]++B) ty:=by have q:=Blk.set h11 12 v12;rw[set_left (by simp)]at q;exact q
 have h13:Blk ((((((((((((((w.setCell (abb b 0) v0).setCell (abb b 1) v1).setCell (abb b 2) v2).setCell (abb b 3) v3).setCell (abb b 4) v4).setCell (abb b 5) v5).setCell (abb b 6) v6).setCell (abb b 7) v7).setCell (abb b 8) v8).setCell (abb b 9) v9).setCell (abb b 10) v10).setCell (abb b 11) v11).setCell (abb b 12) v12).setCell (abb b 13) v13) b (#[v0,v1,v2,v3,v4,v5,v6,v7,v8,v9,v10,v11,v12,v13]++B) ty:=by have q:=Blk.set h12 13 v13;rw[set_left (by simp)]at q;exact q
 exact h13
theorem Blk.DI {w:World} {b:Nat} {u0 u1 u2 u3 u4 u5 u6 u7 u8 u9 u10 u11 u12 u13 v0 v1 v2 v3 v4 v5 v6 v7 v8 v9 v10 v11 v12 v13:Value} {ty:TypeId} (h:Blk w b #[u0,u1,u2,u3,u4,u5,u6,u7,u8,u9,u10,u11,u12,u13] ty):Blk ((((((((((((((w.setCell (abb b 0) (v0)).setCell (abb b 1) (v1)).setCell (abb b 2) (v2)).setCell (abb b 3) (v3)).setCell (abb b 4) (v4)).setCell (abb b 5) (v5)).setCell (abb b 6) (v6)).setCell (abb b 7) (v7)).setCell (abb b 8) (v8)).setCell (abb b 9) (v9)).setCell (abb b 10) (v10)).setCell (abb b 11) (v11)).setCell (abb b 12) (v12)).setCell (abb b 13) (v13)) b #[v0,v1,v2,v3,v4,v5,v6,v7,v8,v9,v10,v11,v12,v13] ty:=by
 have q:=Blk.TK (u0:=u0) (u1:=u1) (u2:=u2) (u3:=u3) (u4:=u4) (u5:=u5) (u6:=u6) (u7:=u7) (u8:=u8) (u9:=u9) (u10:=u10) (u11:=u11) (u12:=u12) (u13:=u13) (v0:=v0) (v1:=v1) (v2:=v2) (v3:=v3) (v4:=v4) (v5:=v5) (v6:=v6) (v7:=v7) (v8:=v8) (v9:=v9) (v10:=v10) (v11:=v11) (v12:=v12) (v13:=v13) (B:=#[]) (w:=w) (b:=b) (ty:=ty) (by rw[Array.append_empty];exact h);rw[Array.append_empty]at q;exact q
theorem CW (w:World) (b:Nat) (v0 v1 v2 v3 v4 v5 v6 v7 v8 v9 v10 v11 v12 v13:Value):Kept b (b+1) w ((((((((((((((w.setCell (abb b 0) (v0)).setCell (abb b 1) (v1)).setCell (abb b 2) (v2)).setCell (abb b 3) (v3)).setCell (abb b 4) (v4)).setCell (abb b 5) (v5)).setCell (abb b 6) (v6)).setCell (abb b 7) (v7)).setCell (abb b 8) (v8)).setCell (abb b 9) (v9)).setCell (abb b 10) (v10)).setCell (abb b 11) (v11)).setCell (abb b 12) (v12)).setCell (abb b 13) (v13)):=((((((((((((((ak w b 0 (v0)).one 1 (v1)).one 2 (v2)).one 3 (v3)).one 4 (v4)).one 5 (v5)).one 6 (v6)).one 7 (v7)).one 8 (v8)).one 9 (v9)).one 10 (v10)).one 11 (v11)).one 12 (v12)).one 13 (v13))
abbrev irA (x:Iq) (a b e q:Option Addr) (ca cb ce cq:Nat):Array Value:=#[.slice a x.c.r.xs.length ca,.slice b x.c.r.ys.length cb,iv x.c.r.o,iv x.c.r.p,iv x.c.r.f,iv x.c.r.m,.bool x.c.r.s,.bool x.c.r.t,.slice e x.c.bx.length ce,.slice q x.c.bm cq,.bool x.c.st,.bool x.c.ha,iv x.l,.bool x.e]
abbrev iqZ:Array Value:=#[.slice none 0 0,.slice none 0 0,iv 0,iv 0,iv 0,iv 0,.bool false,.bool false,.slice none 0 0,.slice none 0 0,.bool false,.bool false,iv 0,.bool false]
theorem dC {w:World} {p:Nat} {v0 v1 v2 v3 v4 v5 v6 v7 v8 v9 v10 v11 v12 v13:Value}:Kept p (p+1) w ((((((((((((((w.setCell (abb p 0) v0).setCell (abb p 1) v1).setCell (abb p 2) v2).setCell (abb p 3) v3).setCell (abb p 4) v4).setCell (abb p 5) v5).setCell (abb p 6) v6).setCell (abb p 7) v7).setCell (abb p 8) v8).setCell (abb p 9) v9).setCell (abb p 10) v10).setCell (abb p 11) v11).setCell (abb p 12) v12).setCell (abb p 13) v13):=CW w p v0 v1 v2 v3 v4 v5 v6 v7 v8 v9 v10 v11 v12 v13
theorem aK.pst {w w':World} {l x y:Nat} {a:Option Addr} {xs:List Int} (s:aK w l w.heap.size a xs) (k:Kept x y w w') (hn:∀g,blk a=some g->¬(x<=g/\g<y)):aK w' l w'.heap.size a xs:=by
 rcases s with s|⟨g,ea,g0,g1,ho⟩
 ·exact .inl s
 ·exact .inr ⟨g,ea,g0,Nat.lt_of_lt_of_le g1 k.size,ho.ag k (hn g (by rw[ea];rfl))⟩
theorem lT.pst {w w':World} {base x y:Nat} {c:Cp} {a b e q:Option Addr} (h:lT w base c a b e q) (k:Kept x y w w') (hn:∀z,blk a=some z\/blk b=some z\/blk e=some z\/blk q=some z->¬(x<=z/\z<y)):lT w' base c a b e q:=
 ⟨h.d.pst k (fun z hz=>hn z (.inl hz)),h.a'.pst k (fun z hz=>hn z (.inr (.inl hz))),h.b'.pst k (fun z hz=>hn z (.inr (.inr (.inl hz)))),h.l.pst k (fun z hz=>hn z (.inr (.inr (.inr hz)))),h.n1,h.n2,h.n3,h.n4,h.n5,h.n6⟩
theorem ou.mv {w w':World} {l l' x y:Nat} {c:Cp} {a b e q:Option Addr} (h:ou w l w.heap.size c a b e q) (k:Kept x y w w') (hy:y<=l) (hb:l'<=l):ou w' l' w'.heap.size c a b e q:=
 ⟨(aK.kept h.d k (.inr (.inl hy))).wide hb k.size,(aK.kept h.a' k (.inr (.inl hy))).wide hb k.size,(aK.kept h.b' k (.inr (.inl hy))).wide hb k.size,(aK.kept h.l k (.inr (.inl hy))).wide hb k.size,h.n1,h.n2,h.n3,h.n4,h.n5,h.n6⟩
theorem zu (w:World) (c:Cp) (a b e q:Option Addr) (ca cb ce cq:Nat) (ha:aF w a c.r.xs) (hb:aF w b c.r.ys) (he:aF w e c.bx) (hq:aF w q c.bl) (lx:c.r.xs.length<=2000000) (ly:c.r.ys.length<=2000000) (lb:c.bx.length<=2000000) (ll:c.bl.length=5*c.bm) (lm:c.bm<=2000000) :
  Calls prog 55 #[.agg #[.slice a c.r.xs.length ca,.slice b c.r.ys.length cb,iv c.r.o,iv c.r.p,iv c.r.f,iv c.r.m,.bool c.r.s,.bool c.r.t,.slice e c.bx.length ce,.slice q c.bm cq,.bool c.st,.bool c.ha]] w fun r w'=>r=.returned (.bool (dY c))/\Kept 0 0 w w':=by
 have K0:=aba (kept_alloc w (.cells #[.slice a c.r.xs.length ca,.slice b c.r.ys.length cb,iv c.r.o,iv c.r.p,iv c.r.f,iv c.r.m,.bool c.r.s,.bool c.r.t,.slice e c.bx.length ce,.slice q c.bm cq,.bool c.st,.bool c.ha] 40));have BA:=Blk.new w #[.slice a c.r.xs.length ca,.slice b c.r.ys.length cb,iv c.r.o,iv c.r.p,iv c.r.f,iv c.r.m,.bool c.r.s,.bool c.r.t,.slice e c.bx.length ce,.slice q c.bm cq,.bool c.st,.bool c.ha] 40;obtain⟨X,hX⟩:∃X:World,w.alloc (.cells #[.slice a c.r.xs.length ca,.slice b c.r.ys.length cb,iv c.r.o,iv c.r.p,iv c.r.f,iv c.r.m,.bool c.r.s,.bool c.r.t,.slice e c.bx.length ce,.slice q c.bm cq,.bool c.st,.bool c.ha] 40)=X:=⟨_,rfl⟩
 rw[hX]at K0 BA;have HBA:=aba BA;have HA:=aba (ha.ag K0.o);have HB:=aba (hb.ag K0.o);have HE:=aba (he.ag K0.o);have HQ:=aba (hq.ag K0.o);clear BA ha hb he hq;have i0:=HBA.o.cell (i:=0) rfl;have i1:=HBA.o.cell (i:=1) rfl;have i2:=HBA.o.cell (i:=2) rfl;have i3:=HBA.o.cell (i:=3) rfl;have i4:=HBA.o.cell (i:=4) rfl;have i5:=HBA.o.cell (i:=5) rfl;have i6:=HBA.o.cell (i:=6) rfl;have i7:=HBA.o.cell (i:=7) rfl;have i8:=HBA.o.cell (i:=8) rfl;have i9:=HBA.o.cell (i:=9) rfl;have i10:=HBA.o.cell (i:=10) rfl;have i11:=HBA.o.cell (i:=11) rfl;cases h1:sN c.r
 ·go_enter func55,ntmps55;go_wp2_with (first|(go_at_call 101;refine(kL _ c.r a b ca cb HA.o HB.o lx ly).mono ?_;rintro e9 W⟨rfl,k9⟩;rw[h1];have HK1:=aba k9;have HB1:=aba (HBA.o.ae k9);have HE1:=aba (HE.o.ag k9);have HQ1:=aba (HQ.o.ag k9);clear k9 i0 i1 i2 i3 i4 i5 i6 i7 i8 i9 i10 i11;have i0:=HB1.o.cell (i:=0) rfl;have i1:=HB1.o.cell (i:=1) rfl;have i2:=HB1.o.cell (i:=2) rfl;have i3:=HB1.o.cell (i:=3) rfl;have i4:=HB1.o.cell (i:=4) rfl;have i5:=HB1.o.cell (i:=5) rfl;have i6:=HB1.o.cell (i:=6) rfl;have i7:=HB1.o.cell (i:=7) rfl;have i8:=HB1.o.cell (i:=8) rfl;have i9:=HB1.o.cell (i:=9) rfl;have i10:=HB1.o.cell (i:=10) rfl;have i11:=HB1.o.cell (i:=11) rfl));go_ret;exact⟨rB (by unfold dY;simp[h1]),K0.o.trans HK1.o⟩
 ·cases h2:Pl.eG c.bx c.bl c.bm
  ·go_enter func55,ntmps55;go_wp2_with (first|(go_at_call 102;have z9:=HB1;refine(oN _ e q ce cq c.bm c.bx c.bl HE1.o HQ1.o lb ll lm).mono ?_;rintro e9 W2⟨rfl,k9⟩;rw[h2];have HK2:=aba k9;have HB2:=aba (HB1.o.ae k9);clear k9 i0 i1 i2 i3 i4 i5 i6 i7 i8 i9 i10 i11;have i0:=HB2.o.cell (i:=0) rfl;have i1:=HB2.o.cell (i:=1) rfl;have i2:=HB2.o.cell (i:=2) rfl;have i3:=HB2.o.cell (i:=3) rfl;have i4:=HB2.o.cell (i:=4) rfl;have i5:=HB2.o.cell (i:=5) rfl;have i6:=HB2.o.cell (i:=6) rfl;have i7:=HB2.o.cell (i:=7) rfl;have i8:=HB2.o.cell (i:=8) rfl;have i9:=HB2.o.cell (i:=9) rfl;have i10:=HB2.o.cell (i:=10) rfl;have i11:=HB2.o.cell (i:=11) rfl)|(go_at_call 101;refine(kL _ c.r a b ca cb HA.o HB.o lx ly).mono ?_;rintro e9 W⟨rfl,k9⟩;rw[h1];have HK1:=aba k9;have HB1:=aba (HBA.o.ae k9);have HE1:=aba (HE.o.ag k9);have HQ1:=aba (HQ.o.ag k9);clear k9 i0 i1 i2 i3 i4 i5 i6 i7 i8 i9 i10 i11;have i0:=HB1.o.cell (i:=0) rfl;have i1:=HB1.o.cell (i:=1) rfl;have i2:=HB1.o.cell (i:=2) rfl;have i3:=HB1.o.cell (i:=3) rfl;have i4:=HB1.o.cell (i:=4) rfl;have i5:=HB1.o.cell (i:=5) rfl;have i6:=HB1.o.cell (i:=6) rfl;have i7:=HB1.o.cell (i:=7) rfl;have i8:=HB1.o.cell (i:=8) rfl;have i9:=HB1.o.cell (i:=9) rfl;have i10:=HB1.o.cell (i:=10) rfl;have i11:=HB1.o.cell (i:=11) rfl));go_ret;exact⟨rB (by unfold dY;simp[h1,h2]),(K0.o.trans HK1.o).trans HK2.o⟩
  ·rcases Bool.eq_false_or_eq_true c.st with h3|h3
   ·have H3:=aba h3;rw[H3.o]at i10;clear h3;go_enter func55,ntmps55;go_wp2_with (first|(go_at_call 102;have z9:=HB1;refine(oN _ e q ce cq c.bm c.bx c.bl HE1.o HQ1.o lb ll lm).mono ?_;rintro e9 W2⟨rfl,k9⟩;rw[h2];have HK2:=aba k9;have HB2:=aba (HB1.o.ae k9);clear k9 i0 i1 i2 i3 i4 i5 i6 i7 i8 i9 i10 i11;have i0:=HB2.o.cell (i:=0) rfl;have i1:=HB2.o.cell (i:=1) rfl;have i2:=HB2.o.cell (i:=2) rfl;have i3:=HB2.o.cell (i:=3) rfl;have i4:=HB2.o.cell (i:=4) rfl;have i5:=HB2.o.cell (i:=5) rfl;have i6:=HB2.o.cell (i:=6) rfl;have i7:=HB2.o.cell (i:=7) rfl;have i8:=HB2.o.cell (i:=8) rfl;have i9:=HB2.o.cell (i:=9) rfl;have i10:=HB2.o.cell (i:=10) rfl;have i11:=HB2.o.cell (i:=11) rfl;rw[H3.o]at i10)|(go_at_call 101;refine(kL _ c.r a b ca cb HA.o HB.o lx ly).mono ?_;rintro e9 W⟨rfl,k9⟩;rw[h1];have HK1:=aba k9;have HB1:=aba (HBA.o.ae k9);have HE1:=aba (HE.o.ag k9);have HQ1:=aba (HQ.o.ag k9);clear k9 i0 i1 i2 i3 i4 i5 i6 i7 i8 i9 i10 i11;have i0:=HB1.o.cell (i:=0) rfl;have i1:=HB1.o.cell (i:=1) rfl;have i2:=HB1.o.cell (i:=2) rfl;have i3:=HB1.o.cell (i:=3) rfl;have i4:=HB1.o.cell (i:=4) rfl;have i5:=HB1.o.cell (i:=5) rfl;have i6:=HB1.o.cell (i:=6) rfl;have i7:=HB1.o.cell (i:=7) rfl;have i8:=HB1.o.cell (i:=8) rfl;have i9:=HB1.o.cell (i:=9) rfl;have i10:=HB1.o.cell (i:=10) rfl;have i11:=HB1.o.cell (i:=11) rfl;rw[H3.o]at i10));go_ret;exact⟨rB (by unfold dY;simp[h1,h2,H3.o]),(K0.o.trans HK1.o).trans HK2.o⟩
   ·have H3:=aba h3;rw[H3.o]at i10;clear h3;go_enter func55,ntmps55;go_wp2_with (first|(go_at_call 102;have z9:=HB1;refine(oN _ e q ce cq c.bm c.bx c.bl HE1.o HQ1.o lb ll lm).mono ?_;rintro e9 W2⟨rfl,k9⟩;rw[h2];have HK2:=aba k9;have HB2:=aba (HB1.o.ae k9);clear k9 i0 i1 i2 i3 i4 i5 i6 i7 i8 i9 i10 i11;have i0:=HB2.o.cell (i:=0) rfl;have i1:=HB2.o.cell (i:=1) rfl;have i2:=HB2.o.cell (i:=2) rfl;have i3:=HB2.o.cell (i:=3) rfl;have i4:=HB2.o.cell (i:=4) rfl;have i5:=HB2.o.cell (i:=5) rfl;have i6:=HB2.o.cell (i:=6) rfl;have i7:=HB2.o.cell (i:=7) rfl;have i8:=HB2.o.cell (i:=8) rfl;have i9:=HB2.o.cell (i:=9) rfl;have i10:=HB2.o.cell (i:=10) rfl;have i11:=HB2.o.cell (i:=11) rfl;rw[H3.o]at i10)|(go_at_call 101;refine(kL _ c.r a b ca cb HA.o HB.o lx ly).mono ?_;rintro e9 W⟨rfl,k9⟩;rw[h1];have HK1:=aba k9;have HB1:=aba (HBA.o.ae k9);have HE1:=aba (HE.o.ag k9);have HQ1:=aba (HQ.o.ag k9);clear k9 i0 i1 i2 i3 i4 i5 i6 i7 i8 i9 i10 i11;have i0:=HB1.o.cell (i:=0) rfl;have i1:=HB1.o.cell (i:=1) rfl;have i2:=HB1.o.cell (i:=2) rfl;have i3:=HB1.o.cell (i:=3) rfl;have i4:=HB1.o.cell (i:=4) rfl;have i5:=HB1.o.cell (i:=5) rfl;have i6:=HB1.o.cell (i:=6) rfl;have i7:=HB1.o.cell (i:=7) rfl;have i8:=HB1.o.cell (i:=8) rfl;have i9:=HB1.o.cell (i:=9) rfl;have i10:=HB1.o.cell (i:=10) rfl;have i11:=HB1.o.cell (i:=11) rfl;rw[H3.o]at i10));go_ret;exact⟨rB (by unfold dY;simp[h1,h2,H3.o]),(K0.o.trans HK1.o).trans HK2.o⟩
theorem nz {fn:Func} {p q:Tmp} {ty:TypeId} (h:fn.results=#[.cell p ty,.tmp q]) (tmps:Array Value) (P:Program) (w:World) :
  (results fn tmps).run P w=((asAddr (tmps.getD p undef)).run P w).andThen fun a w₁=>((loadVar ty a).run P w₁).andThen fun v w₂=>.ok (.tuple #[v,tmps.getD q undef]) w₂:=by
 simp only[results,h];simp[Sem.run_bind,Result.andThen]
theorem CO.vH {w w':World} {lo' lo x y mid gd ga g1 g2 c2:Nat} {c:Cp} (h:CO w lo' mid c gd ga g1 g2 c2) (k:Kept x y w w') (hl:y<=lo') (hb:lo<=lo'):CO w' lo mid c gd ga g1 g2 c2:=by
 have q:=h.l.lt g2 rfl;have:=h.d0;have:=h.d1;have:=h.b0;have:=h.a0;have:=h.a1;exact⟨h.d.ag k (by omega),h.a.ag k (by omega),h.b.ag k (by omega),bg h.l k (by omega),by omega,h.d1,by omega,h.a1,h.da,h.b0,Nat.lt_of_lt_of_le h.b1 k.size,h.bl⟩
theorem J3 (w:World) (x:Iq) (a b e q:Option Addr) (ca cb ce cq:Nat) :
  Calls prog 142 #[.agg (irA x a b e q ca cb ce cq)] w fun r w'=>r=.returned (iv (Pl.pend x))/\Kept 0 0 w w':=by
 have K0:=aba (kept_alloc w (.cells (irA x a b e q ca cb ce cq) 81));have BA:=aba (Blk.new w (irA x a b e q ca cb ce cq) 81);obtain⟨X,hX⟩:∃X:World,w.alloc (.cells (irA x a b e q ca cb ce cq) 81)=X:=⟨_,rfl⟩
 rw[hX]at K0 BA;rcases (show x.e=true\/(x.e=false/\x.c.r.m<x.l)\/(x.e=false/\¬x.c.r.m<x.l) from by rcases Bool.eq_false_or_eq_true x.e with h|h;exact .inl h;by_cases h2:x.c.r.m<x.l;exact .inr (.inl ⟨h,h2⟩);exact .inr (.inr ⟨h,h2⟩)) with h|⟨h,h2⟩|⟨h,h2⟩
 all_goals
  have E:Hid (Pl.pend x=bif x.e then 7 else bif decide (x.c.r.m<x.l) then x.l else 0):=aba rfl;rw[h]at E;have p:=BA.o.all;unfold irA at p;rw[h]at p;have HH:=aba h;clear h;go_enter func142,ntmps142;go_wp2_with fail;go_ret;exact⟨by rw[E.o];first|rfl|(rw[show decide (x.c.r.m<x.l)=true from by simp;omega];rfl)|(rw[show decide (x.c.r.m<x.l)=false from by simp;omega];rfl),K0.o⟩
theorem uh (w:World) (x:Iq) (a b e q:Option Addr) (ca cb ce cq:Nat) (ha:aF w a x.c.r.xs) (hb:aF w b x.c.r.ys) (he:aF w e x.c.bx) (hq:aF w q x.c.bl) (lx:x.c.r.xs.length<=2000000) (ly:x.c.r.ys.length<=2000000) (lb:x.c.bx.length<=2000000) (ll:x.c.bl.length=5*x.c.bm) (lm:x.c.bm<=2000000) :
  Calls prog 88 #[.agg (irA x a b e q ca cb ce cq)] w fun r w'=>r=.returned (.bool (jr x))/\Kept 0 0 w w':=by
 have K0:=aba (kept_alloc w (.cells (irA x a b e q ca cb ce cq) 81));have BA:=aba (Blk.new w (irA x a b e q ca cb ce cq) 81);obtain⟨X,hX⟩:∃X:World,w.alloc (.cells (irA x a b e q ca cb ce cq) 81)=X:=⟨_,rfl⟩
 rw[hX]at K0 BA;have HA:=aba (ha.ag K0.o);have HB:=aba (hb.ag K0.o);have HE:=aba (he.ag K0.o);have HQ:=aba (hq.ag K0.o);clear ha hb he hq;have p:=BA.o.all;cases h1:dY x.c
 all_goals
  have E:Hid (jr x=(dY x.c&&(decide (0<=x.l)&&decide (x.l<=7)))):=aba rfl;rw[h1]at E;go_enter func88,ntmps88;go_wp2_with (first|(go_at_call 55;refine(zu _ x.c a b e q ca cb ce cq HA.o HB.o HE.o HQ.o lx ly lb ll lm).mono ?_;rintro e9 W1⟨rfl,k9⟩;rw[h1];have K1:=aba (K0.o.trans k9);have p1:=(BA.o.ae k9).all;clear k9)|(go_at_call 75;refine st (dF _ _ _ _) ?_));go_ret;exact⟨by rw[E.o];simp,K1.o⟩
theorem XJ (w:World) (c:Cp) (a b e q:Option Addr) (ca cb ce cq:Nat) (ha:aF w a c.r.xs) (hb:aF w b c.r.ys) (he:aF w e c.bx) (hq:aF w q c.bl) (hok:dY c=true) (hl:c.bl.length=5*c.bm) :
  Calls prog 76 #[.agg (cpA c a b e q ca cb ce cq)] w fun r w'=>∃gd cd ga cA g1 c1 g2 c2 mid:Nat,r=.returned (.agg (cpA c (some (abb gd 0)) (some (abb ga 0)) (some (abb g1 0)) (some (abb g2 0)) cd cA c1 c2))/\CO w' w.heap.size mid c gd ga g1 g2 c2/\Kept 0 0 w w':=by
 have G:=GM.of hok hl c.st;have z:=UO w c a b e q ca cb ce cq ha hb he hq G.g.d4 G.g.a4 G.bx hl G.bm;unfold cpA;rw[show c.r.xs.length=4 from G.g.d4,show c.r.ys.length=4 from G.g.a4,show c.bx.length=512 from G.bx];exact z
theorem Tj (w:World) (x:Iq) (a b e q:Option Addr) (ca cb ce cq:Nat) (ha:aF w a x.c.r.xs) (hb:aF w b x.c.r.ys) (he:aF w e x.c.bx) (hq:aF w q x.c.bl) (hok:dY x.c=true) (hl:x.c.bl.length=5*x.c.bm) :
  Calls prog 90 #[.agg (irA x a b e q ca cb ce cq)] w fun r w'=>∃gd cd ga cA g1 c1 g2 c2 mid:Nat,r=.returned (.agg (irA x (some (abb gd 0)) (some (abb ga 0)) (some (abb g1 0)) (some (abb g2 0)) cd cA c1 c2))/\CO w' w.heap.size mid x.c gd ga g1 g2 c2/\Kept 0 0 w w':=by
 have K0:=aba (ah (kept_alloc w (.cells (irA x a b e q ca cb ce cq) 81)) (.cells iqZ 81));have BA:=aba ((Blk.new w (irA x a b e q ca cb ce cq) 81).alloc (.cells iqZ 81));have R0:=Blk.new (w.alloc (.cells (irA x a b e q ca cb ce cq) 81)) iqZ 81;simp only[World.size_alloc]at R0;replace R0:=aba R0;obtain⟨X,hX⟩:∃X:World,(w.alloc (.cells (irA x a b e q ca cb ce cq) 81)).alloc (.cells iqZ 81)=X:=⟨_,rfl⟩
 rw[hX]at K0 BA R0;have sX:w.heap.size+1<X.heap.size:=R0.o.lt;have HA:=aba (ha.ag K0.o);have HB:=aba (hb.ag K0.o);have HE:=aba (he.ag K0.o);have HQ:=aba (hq.ag K0.o);clear ha hb he hq;have p:=BA.o.all;go_enter func90,ntmps90;go_wp2_with (go_at_call 76;refine(XJ _ x.c a b e q ca cb ce cq HA.o HB.o HE.o HQ.o hok hl).mono ?_;rintro e9 W1⟨gd,cd,ga,cA,g1,c1,g2,c2,mid,rfl,hc9,k9⟩;have C1:=aba hc9;have K1:=aba k9;have B1:=aba (BA.o.ae k9);have R1:=aba (R0.o.ae k9);have p1:=B1.o.all;have pf:=B1.o.fz;have r1:=R1.o.all;have rf:=R1.o.fz;clear hc9 k9);have s1:=K1.o.size;refine bodyPost_ret (v:=.agg (irA x (some (abb gd 0)) (some (abb ga 0)) (some (abb g1 0)) (some (abb g2 0)) cd cA c1 c2)) ?_ rfl ⟨gd,cd,ga,cA,g1,c1,g2,c2,mid,rfl,((C1.o.vH (lo:=X.heap.size) jU (by omega) (Nat.le_refl _)).vH dC (by omega) (by omega)),aB (aB (K0.o.trans K1.o) jU (Nat.le_refl _)) dC (by omega)⟩;rw[aj rfl];go_simp
theorem bY (w:World) (lo mid hi p g2:Nat) (c:Mc) (h:MAt w lo mid hi p g2 c) :
  Calls prog 112 #[.pointer (some (abb p 0))] w fun e w'=>e=.returned (.bool c.fine)/\w'=w:=by
 obtain⟨gd,cd,ga,ca,g1,c1,c2,hB,hO⟩:=h;obtain⟨t0,t1,t2,t3,t4,t5,t6,t7,t8,t9,t10,t11,t12,t13,t14,t15⟩:=hB.cells;clear hB hO;go_enter func112,ntmps112;go_wp2;go_ret;exact⟨rfl,rfl⟩
theorem MB.acc {w:World} {p gd cd ga ca g1 c1 g3 c3:Nat} {c:Mc} {k s a v:Int} (h:MB w p gd cd ga ca g1 c1 g3 c3 {c.acc k s a v with f:=c.f}) (e:Mc.dA c.f k s a=c.f):MB w p gd cd ga ca g1 c1 g3 c3 (c.acc k s a v):=by
 have q:c.acc k s a v={c.acc k s a v with f:=c.f}:=by
  unfold Mc.acc;rw[e]
 rw[q];exact h
theorem fZ (w:World) (lo mid hi p g2:Nat) (c:Mc) (k s a v:Int) (h:MAt w lo mid hi p g2 c) (G:GM c) (hask:eU k s a v=true) :
  Calls prog 184 #[.pointer (some (abb p 0)),iv k,iv s,iv a,iv v] w fun e w'=>e=.returned (iv (c.gI k s a v))/\∃g3,MAt w' lo mid hi p g3 (c.acc k s a v)/\Since w lo hi g2 w' g3:=by
 obtain⟨gd,cd,ga,ca,g1,c1,c2,hB,hO⟩:=h;have HB:=aba hB;have HO:=aba hO;have HG:=aba G;clear hB hO G;cases hc:(Pl.code k s a != 0)
 ·have HF:Hid (Mc.dA c.f k s a=c.f):=aba (by unfold Mc.dA;rw[hc];rfl);go_enter func184,ntmps184;go_wp2_with (go_at_call 235;refine(uD _ lo mid hi p gd cd ga ca g1 c1 g2 c2 c k s a v HB.o HO.o HG.o hask).mono ?_;rintro e9 W⟨g3,c3,rfl,hB2,hO2,hb2⟩;have HB2:=aba hB2;have HO2:=aba hO2;have HL2:=aba hb2;clear hB2 hO2 hb2);go_ret;exact⟨rfl,g3,⟨gd,cd,ga,ca,g1,c1,c3,HB2.o.acc HF.o,HO2.o⟩,HL2.o⟩
 ·cases hv:(c.f.v==0)
  ·have HF:Hid (Mc.dA c.f k s a=c.f):=aba (by unfold Mc.dA;rw[hc,hv];rfl);go_enter func184,ntmps184;go_wp2_with (go_at_call 235;refine(uD _ lo mid hi p gd cd ga ca g1 c1 g2 c2 c k s a v HB.o HO.o HG.o hask).mono ?_;rintro e9 W⟨g3,c3,rfl,hB2,hO2,hb2⟩;have HB2:=aba hB2;have HO2:=aba hO2;have HL2:=aba hb2;obtain⟨t0,t1,t2,t3,t4,t5,t6,t7,t8,t9,t10,t11,t12,t13,t14,t15⟩:=hB2.cells;simp only at t11;clear hB2 hO2 hb2 t0 t1 t2 t3 t4 t5 t6 t7 t8 t9 t10 t12 t13 t14 t15);go_ret;exact⟨rfl,g3,⟨gd,cd,ga,ca,g1,c1,c3,HB2.o.acc HF.o,HO2.o⟩,HL2.o⟩
  ·cases h2:(Pl.code k s a==2)
   ·have HF:Hid (Mc.dA c.f k s a={c.f with v:=2,ad:=a,wr:=k==2}):=aba (by unfold Mc.dA;rw[hc,hv,h2];rfl);go_enter func184,ntmps184;go_wp2_with (go_at_call 235;refine(uD _ lo mid hi p gd cd ga ca g1 c1 g2 c2 c k s a v HB.o HO.o HG.o hask).mono ?_;rintro e9 W⟨g3,c3,rfl,hB2,hO2,hb2⟩;have HB2:=aba hB2;have HO2:=aba hO2;have HL2:=aba hb2;obtain⟨t0,t1,t2,t3,t4,t5,t6,t7,t8,t9,t10,t11,t12,t13,t14,t15⟩:=hB2.cells;simp only at t11;have f11:=hB2.frozen 11;have f13:=hB2.frozen 13;have f15:=hB2.frozen 15;clear hB2 hO2 hb2 t0 t1 t2 t3 t4 t5 t6 t7 t8 t9 t10 t12 t14);go_ret;have hq:(lo<=p/\p<hi)\/w.heap.size<=p:=by have:=HO2.o.p0;have:=HO2.o.d0;have:=HO2.o.d1;have:=HO2.o.p1;omega
    have KK:=((ak W p 11 (iv 2)).one 13 (iv a)).one 15 (.bool (k==2));refine⟨rfl,g3,⟨gd,cd,ga,ca,g1,c1,c3,?_,HO2.o.own KK⟩,((HL2.o.set p 11 _ hq).set p 13 _ hq).set p 15 _ hq⟩;have q:=((HB2.o.cV 2).cAd a).cWr (k==2);unfold Mc.acc;rw[HF.o];exact q
   ·have HF:Hid (Mc.dA c.f k s a={c.f with v:=3,ad:=a,wr:=k==2}):=aba (by unfold Mc.dA;rw[hc,hv,h2];rfl);go_enter func184,ntmps184;go_wp2_with (go_at_call 235;refine(uD _ lo mid hi p gd cd ga ca g1 c1 g2 c2 c k s a v HB.o HO.o HG.o hask).mono ?_;rintro e9 W⟨g3,c3,rfl,hB2,hO2,hb2⟩;have HB2:=aba hB2;have HO2:=aba hO2;have HL2:=aba hb2;obtain⟨t0,t1,t2,t3,t4,t5,t6,t7,t8,t9,t10,t11,t12,t13,t14,t15⟩:=hB2.cells;simp only at t11;have f11:=hB2.frozen 11;have f13:=hB2.frozen 13;have f15:=hB2.frozen 15;clear hB2 hO2 hb2 t0 t1 t2 t3 t4 t5 t6 t7 t8 t9 t10 t12 t14);go_ret;have hq:(lo<=p/\p<hi)\/w.heap.size<=p:=by have:=HO2.o.p0;have:=HO2.o.d0;have:=HO2.o.d1;have:=HO2.o.p1;omega
    have KK:=(((ak W p 11 (iv 2)).one 11 (iv 3)).one 13 (iv a)).one 15 (.bool (k==2));refine⟨rfl,g3,⟨gd,cd,ga,ca,g1,c1,c3,?_,HO2.o.own KK⟩,(((HL2.o.set p 11 _ hq).set p 11 _ hq).set p 13 _ hq).set p 15 _ hq⟩;have q:=(((HB2.o.cV 2).cV 3).cAd a).cWr (k==2);unfold Mc.acc;rw[HF.o];exact q
end Go.Proofs.YtgikibaajanjiaaGreatDoor
