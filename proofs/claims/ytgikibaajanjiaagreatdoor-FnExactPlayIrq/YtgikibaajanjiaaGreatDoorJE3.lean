/- Part 3 of what the last text leans on. -/
import Derived.Test.YtgikibaajanjiaaGreatDoorJE2
set_option maxRecDepth 100000
set_option maxHeartbeats 16000000
namespace Go.Proofs.YtgikibaajanjiaaGreatDoor
open Pl
open Go.RowKit Go.Proofs.Tryz
set_option linter.unusedVariables false
theorem Z7 (w:World) (p base g1 g2:Nat) (d0 d1 d2 d3 d4 d5 d6 d7 d10 d11 d12 d13 d14 d15:Value) (xs ys:List Int) (c1 m c2:Nat) (k s a v:Int) (hP:Blk w p #[d0,d1,d2,d3,d4,d5,d6,d7,.slice (some (abb g1 0)) 512 c1,.slice (some (abb g2 0)) m c2,d10,d11,d12,d13,d14,d15] 143) (h1:Own w g1 xs) (lx:xs.length=512) (hby:bf xs=true)
  (hO:w.ownsRow base 179 5 (.slice (some (abb g2 0)) m c2) m (ys.map (Value.int .i64))) (hp:base<=p) (hg:base<=g1) (n1:p≠g1) (n2:p≠g2) (n3:g1≠g2) (bm:m<=400) (hask:eU k s a v=true) :
  Calls prog 235 #[.pointer (some (abb p 8)),iv k,iv s,iv a,iv v] w fun e w'=>∃g3 c3:Nat,e=.returned (.tuple #[iv (Pl.lv xs k s a v),iv (Pl.code k s a)])/\
   Blk w' p #[d0,d1,d2,d3,d4,d5,d6,d7,.slice (some (abb g1 0)) 512 c1,.slice (some (abb g3 0)) (nm m k s a) c3,d10,d11,d12,d13,d14,d15] 143/\Own w' g1 (Pl.nb xs k s a v)/\w'.ownsRow base 179 5 (.slice (some (abb g3 0)) (nm m k s a) c3) (nm m k s a) ((nl xs ys m k s a v).map (Value.int .i64))/\(g3=g2\/w.heap.size<=g3)/\FrP (fun k=>k=p\/k=g1\/k=g2) w w':=by
 obtain⟨hk13,hs,v0,⟨a0,a1⟩,hkv⟩:=ry hask;by_cases hc:Pl.code k s a=0
 ·have hlow:=sG hc a0;obtain⟨n,rfl⟩:∃n:Nat,a=(n:Int):=⟨a.toNat,by omega⟩
  by_cases h2:k=2
  ·subst h2;rcases hs with⟨rfl,hv⟩|⟨rfl,hv⟩
   ·exact Qh w p base g1 g2 d0 d1 d2 d3 d4 d5 d6 d7 d10 d11 d12 d13 d14 d15 xs ys c1 m c2 n v hP h1 lx hby hO hp hg n1 n2 n3 bm (aba hc.symm) (by omega) v0 hv
   ·exact Qg w p base g1 g2 d0 d1 d2 d3 d4 d5 d6 d7 d10 d11 d12 d13 d14 d15 xs ys c1 m c2 n v hP h1 lx hby hO hp hg n1 n2 n3 bm (aba hc.symm) (by omega) v0 hv
  ·obtain rfl:v=0:=by omega
   obtain⟨t,rfl⟩:∃t:Nat,s=(t:Int):=⟨s.toNat,by omega⟩
   exact UV w p base g1 g2 d0 d1 d2 d3 d4 d5 d6 d7 d10 d11 d12 d13 d14 d15 xs ys c1 m c2 k t n hP h1 lx hby hO hp hg n1 n2 n3 bm (aba hc.symm) (by simpa using h2) (by omega) (by omega) (by omega)
 ·by_cases h2:k=2
  ·subst h2;exact Qi w p base g1 g2 d0 d1 d2 d3 d4 d5 d6 d7 d10 d11 d12 d13 d14 d15 xs ys c1 m c2 s a v _ hP h1 lx hby hO hp hg n1 n2 n3 bm (aba rfl) (by simpa using hc) (by omega) (by omega) a0 a1
  ·obtain rfl:v=0:=by omega
   exact Qj w p base g1 g2 d0 d1 d2 d3 d4 d5 d6 d7 d10 d11 d12 d13 d14 d15 xs ys c1 m c2 k s a _ hP h1 lx hby hO hp hg n1 n2 n3 bm (aba rfl) (by simpa using hc) (by omega) (by omega) a0 a1 (by simpa using h2)
theorem bg {w w':World} {base g n cap size lo hi:Nat} {e:TypeId} {xs:List Value} (h:w.ownsRow base e size (.slice (some (abb g 0)) n cap) n xs) (k:Kept lo hi w w') (hn:¬(lo<=g/\g<hi)):w'.ownsRow base e size (.slice (some (abb g 0)) n cap) n xs:=by
 have hlt:=h.lt g rfl;rcases h with⟨hl,⟨e1,e0⟩|⟨g',cap',cur,e1,hb,hgg,rest⟩⟩
 ·cases e1
 ·cases e1;exact⟨hl,.inr ⟨g,cap,cur,rfl,hb,(k.block g hlt.2 hn).trans hgg,rest⟩⟩
theorem ui {lo a b:Nat} {w w':World} (h:Kept a b w w') (hl:lo<=a) (hs:lo<=w.heap.size):Below lo w w':=⟨h.os,h.tape,h.output,h.size,fun k hk=>h.block k (by omega) (by omega)⟩
def jP (c:Mc) (gd cd ga ca g1 c1 g2 c2:Nat):Array Value:=#[.slice (some (abb gd 0)) 4 cd,.slice (some (abb ga 0)) 4 ca,iv c.r.o,iv c.r.p,iv c.r.f,iv c.r.m,.bool c.r.s,.bool c.r.t,.slice (some (abb g1 0)) 512 c1,.slice (some (abb g2 0)) c.bm c2,.bool c.st,iv c.f.v,iv c.f.pc,iv c.f.ad,iv c.f.wo,.bool c.f.wr]
structure MO (w:World) (lo mid hi p gd ga g1 g2 c2:Nat) (xs ys bx bl:List Int) (bm:Nat):Prop where
 d:Own w gd xs
 a:Own w ga ys
 b:Own w g1 bx
 l:w.ownsRow mid 179 5 (.slice (some (abb g2 0)) bm c2) bm (bl.map (Value.int .i64))
 d0:lo<=gd
 d1:gd<mid
 a0:lo<=ga
 a1:ga<mid
 da:gd≠ga
 p0:mid<=p
 b0:mid<=g1
 pb:p≠g1
 pl:p≠g2
 p1:p<hi
 b1:g1<hi
 bl':g1≠g2
 hh:hi<=w.heap.size
def MB (w:World) (p gd cd ga ca g1 c1 g2 c2:Nat) (c:Mc):Prop:=Blk w p (jP c gd cd ga ca g1 c1 g2 c2) 143
def MAt (w:World) (lo mid hi p g2:Nat) (c:Mc):Prop:=∃gd cd ga ca g1 c1 c2:Nat,MB w p gd cd ga ca g1 c1 g2 c2 c/\MO w lo mid hi p gd ga g1 g2 c2 c.r.xs c.r.ys c.bx c.bl c.bm
theorem MO.kept {w w':World} {lo mid hi p gd ga g1 g2 c2 x y:Nat} {xs ys bx bl:List Int} {bm:Nat} (h:MO w lo mid hi p gd ga g1 g2 c2 xs ys bx bl bm) (k:Kept x y w w') (hd:¬(x<=gd/\gd<y)) (ha:¬(x<=ga/\ga<y)) (h1:¬(x<=g1/\g1<y)) (h2:¬(x<=g2/\g2<y)):MO w' lo mid hi p gd ga g1 g2 c2 xs ys bx bl bm:=
 ⟨h.d.ag k hd,h.a.ag k ha,h.b.ag k h1,bg h.l k h2,h.d0,h.d1,h.a0,h.a1,h.da,h.p0,h.b0,h.pb,h.pl,h.p1,h.b1,h.bl',Nat.le_trans h.hh k.size⟩
theorem MO.g2 {w:World} {lo mid hi p gd ga g1 g2 c2:Nat} {xs ys bx bl:List Int} {bm:Nat} (h:MO w lo mid hi p gd ga g1 g2 c2 xs ys bx bl bm):mid<=g2/\g2<w.heap.size:=h.l.lt g2 rfl
theorem MO.own {w w':World} {lo mid hi p gd ga g1 g2 c2:Nat} {xs ys bx bl:List Int} {bm:Nat} (h:MO w lo mid hi p gd ga g1 g2 c2 xs ys bx bl bm) (k:Kept p (p+1) w w'):MO w' lo mid hi p gd ga g1 g2 c2 xs ys bx bl bm:=by
 have:=h.d1;have:=h.a1;have:=h.p0;have:=h.pb;have:=h.pl
 exact h.kept k (by omega) (by omega) (by omega) (by omega)
theorem MO.any {w w':World} {lo mid hi p gd ga g1 g2 c2:Nat} {xs ys bx bl:List Int} {bm:Nat} (h:MO w lo mid hi p gd ga g1 g2 c2 xs ys bx bl bm) (k:Kept 0 0 w w'):MO w' lo mid hi p gd ga g1 g2 c2 xs ys bx bl bm:=h.kept k (by omega) (by omega) (by omega) (by omega)
theorem MO.Pe {w:World} {lo mid hi p gd ga g1 g2 c2:Nat} {xs ys bx bl:List Int} {bm:Nat} (h:MO w lo mid hi p gd ga g1 g2 c2 xs ys bx bl bm) (k:Nat) (v:Int):MO (w.setCell ⟨gd,k,none⟩ (iv v)) lo mid hi p gd ga g1 g2 c2 (xs.set k v) ys bx bl bm:=by
 have:=h.d1;have:=h.a1;have:=h.p0;have:=h.pb;have:=h.pl;have:=h.g2;have:=h.b0;have:=h.da
 exact⟨h.d.vM v,h.a.setOther _ _ _ (by omega),h.b.setOther _ _ _ (by omega),h.l.kept (grownBy_set _ _ _ _) (.inr (fun e=>by have h3:g2=gd:=Option.some.inj e;omega)),h.d0,h.d1,h.a0,h.a1,h.da,h.p0,h.b0,h.pb,h.pl,h.p1,h.b1,h.bl',by simpa using h.hh⟩
theorem MO.fC {w:World} {lo mid hi p gd ga g1 g2 c2:Nat} {xs ys bx bl:List Int} {bm:Nat} (h:MO w lo mid hi p gd ga g1 g2 c2 xs ys bx bl bm) (k:Nat) (v:Int):MO (w.setCell ⟨ga,k,none⟩ (iv v)) lo mid hi p gd ga g1 g2 c2 xs (ys.set k v) bx bl bm:=by
 have:=h.d1;have:=h.a1;have:=h.p0;have:=h.pb;have:=h.pl;have:=h.g2;have:=h.b0;have:=h.da
 exact⟨h.d.setOther _ _ _ (by omega),h.a.vM v,h.b.setOther _ _ _ (by omega),h.l.kept (grownBy_set _ _ _ _) (.inr (fun e=>by have h3:g2=ga:=Option.some.inj e;omega)),h.d0,h.d1,h.a0,h.a1,h.da,h.p0,h.b0,h.pb,h.pl,h.p1,h.b1,h.bl',by simpa using h.hh⟩
theorem MO.reg {w:World} {lo mid hi p gd ga g1 g2 c2:Nat} {r:Rg} {bx bl:List Int} {bm:Nat} (h:MO w lo mid hi p gd ga g1 g2 c2 r.xs r.ys bx bl bm):fQ w lo mid r (some (abb gd 0)) (some (abb ga 0)):=
 ⟨.inr ⟨gd,rfl,h.d0,h.d1,h.d⟩,.inr ⟨ga,rfl,h.a0,h.a1,h.a⟩,fun g e q=>h.da (by have e1:gd=g:=Option.some.inj e;have e2:ga=g:=Option.some.inj q;omega)⟩
theorem vI {w:World} {lo hi g:Nat} {xs:List Int} (h:aN w lo hi (some (abb g 0)) xs):Own w g xs:=by
 rcases h with⟨e,_⟩|⟨g',e,_,_,ho⟩
 ·cases e
 ·cases e;exact ho
theorem MO.regs {w w':World} {lo mid hi p gd ga g1 g2 c2:Nat} {xs ys bx bl:List Int} {bm:Nat} {r:Rg} (h:MO w lo mid hi p gd ga g1 g2 c2 xs ys bx bl bm) (hr:fQ w' lo mid r (some (abb gd 0)) (some (abb ga 0))) (k:Kept lo mid w w'):MO w' lo mid hi p gd ga g1 g2 c2 r.xs r.ys bx bl bm:=by
 have:=h.p0;have:=h.g2;have:=h.b0
 exact⟨vI hr.1,vI hr.2.1,h.b.ag k (by omega),bg h.l k (by omega),h.d0,h.d1,h.a0,h.a1,h.da,h.p0,h.b0,h.pb,h.pl,h.p1,h.b1,h.bl',Nat.le_trans h.hh k.size⟩
theorem MB.regs {w w':World} {lo mid p gd cd ga ca g1 c1 g2 c2:Nat} {c:Mc} (h:MB w p gd cd ga ca g1 c1 g2 c2 c) (k:Kept lo mid w w') (hp:mid<=p):MB w' p gd cd ga ca g1 c1 g2 c2 c:=Blk.kept h k (by omega)
theorem MB.any {w w':World} {p gd cd ga ca g1 c1 g2 c2:Nat} {c:Mc} (h:MB w p gd cd ga ca g1 c1 g2 c2 c) (k:Kept 0 0 w w'):MB w' p gd cd ga ca g1 c1 g2 c2 c:=Blk.ae h k
theorem MB.cells {w:World} {p gd cd ga ca g1 c1 g2 c2:Nat} {c:Mc} (h:MB w p gd cd ga ca g1 c1 g2 c2 c) :
  w.cell? (abb p 0)=some (.slice (some (abb gd 0)) 4 cd)/\w.cell? (abb p 1)=some (.slice (some (abb ga 0)) 4 ca)/\w.cell? (abb p 2)=some (iv c.r.o)/\w.cell? (abb p 3)=some (iv c.r.p)/\w.cell? (abb p 4)=some (iv c.r.f)/\w.cell? (abb p 5)=some (iv c.r.m)/\w.cell? (abb p 6)=some (.bool c.r.s)/\w.cell? (abb p 7)=some (.bool c.r.t)/\
  w.cell? (abb p 8)=some (.slice (some (abb g1 0)) 512 c1)/\w.cell? (abb p 9)=some (.slice (some (abb g2 0)) c.bm c2)/\w.cell? (abb p 10)=some (.bool c.st)/\w.cell? (abb p 11)=some (iv c.f.v)/\w.cell? (abb p 12)=some (iv c.f.pc)/\w.cell? (abb p 13)=some (iv c.f.ad)/\w.cell? (abb p 14)=some (iv c.f.wo)/\w.cell? (abb p 15)=some (.bool c.f.wr):=
 ⟨Blk.cell (i:=0) h rfl,Blk.cell (i:=1) h rfl,Blk.cell (i:=2) h rfl,Blk.cell (i:=3) h rfl,Blk.cell (i:=4) h rfl,Blk.cell (i:=5) h rfl,Blk.cell (i:=6) h rfl,Blk.cell (i:=7) h rfl,Blk.cell (i:=8) h rfl,Blk.cell (i:=9) h rfl,Blk.cell (i:=10) h rfl,Blk.cell (i:=11) h rfl,Blk.cell (i:=12) h rfl,Blk.cell (i:=13) h rfl,Blk.cell (i:=14) h rfl,Blk.cell (i:=15) h rfl⟩
theorem MB.frozen {w:World} {p gd cd ga ca g1 c1 g2 c2:Nat} {c:Mc} (h:MB w p gd cd ga ca g1 c1 g2 c2 c) (i:Nat):w.frozen? ⟨p,i,none⟩=false:=Blk.frozen h i
theorem MB.lt {w:World} {p gd cd ga ca g1 c1 g2 c2:Nat} {c:Mc} (h:MB w p gd cd ga ca g1 c1 g2 c2 c):p<w.heap.size:=Blk.lt h
theorem Ti (a0 a1 a2 a3 a4 a5 a6 a7 a8 a9 a10 a11 a12 a13 a14 a15 v:Value):(#[a0,a1,a2,a3,a4,a5,a6,a7,a8,a9,a10,a11,a12,a13,a14,a15]:Array Value).setIfInBounds 0 v=#[v,a1,a2,a3,a4,a5,a6,a7,a8,a9,a10,a11,a12,a13,a14,a15]:=rfl
theorem Tf (a0 a1 a2 a3 a4 a5 a6 a7 a8 a9 a10 a11 a12 a13 a14 a15 v:Value):(#[a0,a1,a2,a3,a4,a5,a6,a7,a8,a9,a10,a11,a12,a13,a14,a15]:Array Value).setIfInBounds 1 v=#[a0,v,a2,a3,a4,a5,a6,a7,a8,a9,a10,a11,a12,a13,a14,a15]:=rfl
theorem Td (a0 a1 a2 a3 a4 a5 a6 a7 a8 a9 a10 a11 a12 a13 a14 a15 v:Value):(#[a0,a1,a2,a3,a4,a5,a6,a7,a8,a9,a10,a11,a12,a13,a14,a15]:Array Value).setIfInBounds 2 v=#[a0,a1,v,a3,a4,a5,a6,a7,a8,a9,a10,a11,a12,a13,a14,a15]:=rfl
theorem Jp (a0 a1 a2 a3 a4 a5 a6 a7 a8 a9 a10 a11 a12 a13 a14 a15 v:Value):(#[a0,a1,a2,a3,a4,a5,a6,a7,a8,a9,a10,a11,a12,a13,a14,a15]:Array Value).setIfInBounds 3 v=#[a0,a1,a2,v,a4,a5,a6,a7,a8,a9,a10,a11,a12,a13,a14,a15]:=rfl
theorem Jo (a0 a1 a2 a3 a4 a5 a6 a7 a8 a9 a10 a11 a12 a13 a14 a15 v:Value):(#[a0,a1,a2,a3,a4,a5,a6,a7,a8,a9,a10,a11,a12,a13,a14,a15]:Array Value).setIfInBounds 4 v=#[a0,a1,a2,a3,v,a5,a6,a7,a8,a9,a10,a11,a12,a13,a14,a15]:=rfl
theorem Tc (a0 a1 a2 a3 a4 a5 a6 a7 a8 a9 a10 a11 a12 a13 a14 a15 v:Value):(#[a0,a1,a2,a3,a4,a5,a6,a7,a8,a9,a10,a11,a12,a13,a14,a15]:Array Value).setIfInBounds 5 v=#[a0,a1,a2,a3,a4,v,a6,a7,a8,a9,a10,a11,a12,a13,a14,a15]:=rfl
theorem SX (a0 a1 a2 a3 a4 a5 a6 a7 a8 a9 a10 a11 a12 a13 a14 a15 v:Value):(#[a0,a1,a2,a3,a4,a5,a6,a7,a8,a9,a10,a11,a12,a13,a14,a15]:Array Value).setIfInBounds 6 v=#[a0,a1,a2,a3,a4,a5,v,a7,a8,a9,a10,a11,a12,a13,a14,a15]:=rfl
theorem SV (a0 a1 a2 a3 a4 a5 a6 a7 a8 a9 a10 a11 a12 a13 a14 a15 v:Value):(#[a0,a1,a2,a3,a4,a5,a6,a7,a8,a9,a10,a11,a12,a13,a14,a15]:Array Value).setIfInBounds 7 v=#[a0,a1,a2,a3,a4,a5,a6,v,a8,a9,a10,a11,a12,a13,a14,a15]:=rfl
theorem Ut (a0 a1 a2 a3 a4 a5 a6 a7 a8 a9 a10 a11 a12 a13 a14 a15 v:Value):(#[a0,a1,a2,a3,a4,a5,a6,a7,a8,a9,a10,a11,a12,a13,a14,a15]:Array Value).setIfInBounds 10 v=#[a0,a1,a2,a3,a4,a5,a6,a7,a8,a9,v,a11,a12,a13,a14,a15]:=rfl
theorem Us (a0 a1 a2 a3 a4 a5 a6 a7 a8 a9 a10 a11 a12 a13 a14 a15 v:Value):(#[a0,a1,a2,a3,a4,a5,a6,a7,a8,a9,a10,a11,a12,a13,a14,a15]:Array Value).setIfInBounds 11 v=#[a0,a1,a2,a3,a4,a5,a6,a7,a8,a9,a10,v,a12,a13,a14,a15]:=rfl
theorem Ur (a0 a1 a2 a3 a4 a5 a6 a7 a8 a9 a10 a11 a12 a13 a14 a15 v:Value):(#[a0,a1,a2,a3,a4,a5,a6,a7,a8,a9,a10,a11,a12,a13,a14,a15]:Array Value).setIfInBounds 12 v=#[a0,a1,a2,a3,a4,a5,a6,a7,a8,a9,a10,a11,v,a13,a14,a15]:=rfl
theorem Uo (a0 a1 a2 a3 a4 a5 a6 a7 a8 a9 a10 a11 a12 a13 a14 a15 v:Value):(#[a0,a1,a2,a3,a4,a5,a6,a7,a8,a9,a10,a11,a12,a13,a14,a15]:Array Value).setIfInBounds 13 v=#[a0,a1,a2,a3,a4,a5,a6,a7,a8,a9,a10,a11,a12,v,a14,a15]:=rfl
theorem Un (a0 a1 a2 a3 a4 a5 a6 a7 a8 a9 a10 a11 a12 a13 a14 a15 v:Value):(#[a0,a1,a2,a3,a4,a5,a6,a7,a8,a9,a10,a11,a12,a13,a14,a15]:Array Value).setIfInBounds 14 v=#[a0,a1,a2,a3,a4,a5,a6,a7,a8,a9,a10,a11,a12,a13,v,a15]:=rfl
theorem Um (a0 a1 a2 a3 a4 a5 a6 a7 a8 a9 a10 a11 a12 a13 a14 a15 v:Value):(#[a0,a1,a2,a3,a4,a5,a6,a7,a8,a9,a10,a11,a12,a13,a14,a15]:Array Value).setIfInBounds 15 v=#[a0,a1,a2,a3,a4,a5,a6,a7,a8,a9,a10,a11,a12,a13,a14,v]:=rfl
theorem MB.laid {w:World} {p gd cd ga ca g1 c1 g2 c2:Nat} {c:Mc} (h:MB w p gd cd ga ca g1 c1 g2 c2 c) (r:Rg):MB ((((((((w.setCell (abb p 0) (.slice (some (abb gd 0)) 4 cd)).setCell (abb p 1) (.slice (some (abb ga 0)) 4 ca)).setCell (abb p 2) (iv r.o)).setCell (abb p 3) (iv r.p)).setCell (abb p 4) (iv r.f)).setCell (abb p 5) (iv r.m)).setCell (abb p 6) (.bool r.s)).setCell (abb p 7) (.bool r.t)) p gd cd ga ca g1 c1 g2 c2 (c.bC r):=
 by
 have q:=(((((((Blk.set h 0 (.slice (some (abb gd 0)) 4 cd)).set 1 (.slice (some (abb ga 0)) 4 ca)).set 2 (iv r.o)).set 3 (iv r.p)).set 4 (iv r.f)).set 5 (iv r.m)).set 6 (.bool r.s)).set 7 (.bool r.t);unfold jP at q;rw[Ti,Tf,Td,Jp,Jo,Tc,SX,SV]at q;exact q
theorem MB.lT {w:World} {p:Nat} (v0 v1 v2 v3 v4 v5 v6 v7:Value):Kept p (p+1) w ((((((((w.setCell (abb p 0) v0).setCell (abb p 1) v1).setCell (abb p 2) v2).setCell (abb p 3) v3).setCell (abb p 4) v4).setCell (abb p 5) v5).setCell (abb p 6) v6).setCell (abb p 7) v7):=
 af (af (af (af (af (af (af (af (Kept.refl _ _ _) _ _ _ (.inl (by omega))) _ _ _ (.inl (by omega))) _ _ _ (.inl (by omega))) _ _ _ (.inl (by omega))) _ _ _ (.inl (by omega))) _ _ _ (.inl (by omega))) _ _ _ (.inl (by omega))) _ _ _ (.inl (by omega))
theorem MB.cP {w:World} {p gd cd ga ca g1 c1 g2 c2:Nat} {c:Mc} (h:MB w p gd cd ga ca g1 c1 g2 c2 c) (v:Int):MB (w.setCell (abb p 3) (iv v)) p gd cd ga ca g1 c1 g2 c2 (c.aH v):=by
 have q:=Blk.set h 3 (iv v);unfold jP at q;rw[Jp]at q;exact q
theorem MB.cF {w:World} {p gd cd ga ca g1 c1 g2 c2:Nat} {c:Mc} (h:MB w p gd cd ga ca g1 c1 g2 c2 c) (v:Int):MB (w.setCell (abb p 4) (iv v)) p gd cd ga ca g1 c1 g2 c2 (c.aJ v):=by
 have q:=Blk.set h 4 (iv v);unfold jP at q;rw[Jo]at q;exact q
theorem MB.cSt {w:World} {p gd cd ga ca g1 c1 g2 c2:Nat} {c:Mc} (h:MB w p gd cd ga ca g1 c1 g2 c2 c) (v:Bool):MB (w.setCell (abb p 10) (.bool v)) p gd cd ga ca g1 c1 g2 c2 ({c with st:=v}):=by
 have q:=Blk.set h 10 (.bool v);unfold jP at q;rw[Ut]at q;exact q
theorem MB.cV {w:World} {p gd cd ga ca g1 c1 g2 c2:Nat} {c:Mc} (h:MB w p gd cd ga ca g1 c1 g2 c2 c) (v:Int):MB (w.setCell (abb p 11) (iv v)) p gd cd ga ca g1 c1 g2 c2 ({c with f:={c.f with v:=v}}):=by
 have q:=Blk.set h 11 (iv v);unfold jP at q;rw[Us]at q;exact q
theorem MB.cPc {w:World} {p gd cd ga ca g1 c1 g2 c2:Nat} {c:Mc} (h:MB w p gd cd ga ca g1 c1 g2 c2 c) (v:Int):MB (w.setCell (abb p 12) (iv v)) p gd cd ga ca g1 c1 g2 c2 ({c with f:={c.f with pc:=v}}):=by
 have q:=Blk.set h 12 (iv v);unfold jP at q;rw[Ur]at q;exact q
theorem MB.cAd {w:World} {p gd cd ga ca g1 c1 g2 c2:Nat} {c:Mc} (h:MB w p gd cd ga ca g1 c1 g2 c2 c) (v:Int):MB (w.setCell (abb p 13) (iv v)) p gd cd ga ca g1 c1 g2 c2 ({c with f:={c.f with ad:=v}}):=by
 have q:=Blk.set h 13 (iv v);unfold jP at q;rw[Uo]at q;exact q
theorem MB.cWo {w:World} {p gd cd ga ca g1 c1 g2 c2:Nat} {c:Mc} (h:MB w p gd cd ga ca g1 c1 g2 c2 c) (v:Int):MB (w.setCell (abb p 14) (iv v)) p gd cd ga ca g1 c1 g2 c2 ({c with f:={c.f with wo:=v}}):=by
 have q:=Blk.set h 14 (iv v);unfold jP at q;rw[Un]at q;exact q
theorem MB.cWr {w:World} {p gd cd ga ca g1 c1 g2 c2:Nat} {c:Mc} (h:MB w p gd cd ga ca g1 c1 g2 c2 c) (v:Bool):MB (w.setCell (abb p 15) (.bool v)) p gd cd ga ca g1 c1 g2 c2 ({c with f:={c.f with wr:=v}}):=by
 have q:=Blk.set h 15 (.bool v);unfold jP at q;rw[Um]at q;exact q
theorem MB.tJ {w:World} {p gd cd ga ca g1 c1 g2 c2:Nat} {c:Mc} (h:MB w p gd cd ga ca g1 c1 g2 c2 c) (b i:Nat) (v:Value) (hn:p≠b):MB (w.setCell ⟨b,i,none⟩ v) p gd cd ga ca g1 c1 g2 c2 c:=Blk.other h b i v hn
theorem ak (w:World) (p i:Nat) (v:Value):Kept p (p+1) w (w.setCell ⟨p,i,none⟩ v):=af (Kept.refl _ _ _) _ _ _ (.inl (by omega))
theorem Kept.one {w w':World} {p:Nat} (h:Kept p (p+1) w w') (i:Nat) (v:Value):Kept p (p+1) w (w'.setCell ⟨p,i,none⟩ v):=af h _ _ _ (.inl (by omega))
theorem MAt.any {w w':World} {lo mid hi p g2:Nat} {c:Mc} (h:MAt w lo mid hi p g2 c) (k:Kept 0 0 w w'):MAt w' lo mid hi p g2 c:=by
 obtain⟨gd,cd,ga,ca,g1,c1,c2,hB,hO⟩:=h;exact⟨gd,cd,ga,ca,g1,c1,c2,hB.any k,hO.any k⟩
theorem MAt.drew {w:World} {lo mid hi p g2:Nat} {c:Mc} (h:MAt w lo mid hi p g2 c):MAt w.drew lo mid hi p g2 c:=h.any (ai (Kept.refl _ _ _))
theorem MAt.lo {w:World} {lo mid hi p g2:Nat} {c:Mc} (h:MAt w lo mid hi p g2 c):lo<=mid/\mid<=w.heap.size/\mid<=p/\p<hi/\p<w.heap.size/\g2<w.heap.size/\hi<=w.heap.size:=by
 obtain⟨gd,cd,ga,ca,g1,c1,c2,hB,hO⟩:=h;have:=hO.d0;have:=hO.d1;have:=hO.p0;have:=hB.lt;have:=hO.p1;have:=hO.g2;have:=hO.hh;omega
theorem MAt.laid {W:World} {lo mid hi p gd cd ga ca g1 c1 g2 c2:Nat} {c:Mc} {r:Rg} (hB:MB W p gd cd ga ca g1 c1 g2 c2 c) (hO:MO W lo mid hi p gd ga g1 g2 c2 r.xs r.ys c.bx c.bl c.bm):MAt ((((((((W.setCell (abb p 0) (.slice (some (abb gd 0)) 4 cd)).setCell (abb p 1) (.slice (some (abb ga 0)) 4 ca)).setCell (abb p 2) (iv r.o)).setCell (abb p 3) (iv r.p)).setCell (abb p 4) (iv r.f)).setCell (abb p 5) (iv r.m)).setCell (abb p 6) (.bool r.s)).setCell (abb p 7) (.bool r.t)) lo mid hi p g2 (c.bC r):=
 ⟨gd,cd,ga,ca,g1,c1,c2,hB.laid r,hO.own (MB.lT _ _ _ _ _ _ _ _)⟩
theorem jy {lo hi p g g':Nat} {w W:World} (h:Since w lo hi g W g') (hp:(lo<=p/\p<hi)\/w.heap.size<=p) (v0 v1 v2 v3 v4 v5 v6 v7:Value):Since w lo hi g ((((((((W.setCell (abb p 0) v0).setCell (abb p 1) v1).setCell (abb p 2) v2).setCell (abb p 3) v3).setCell (abb p 4) v4).setCell (abb p 5) v5).setCell (abb p 6) v6).setCell (abb p 7) v7) g':=
 (((((((h.set p 0 _ hp).set p 1 _ hp).set p 2 _ hp).set p 3 _ hp).set p 4 _ hp).set p 5 _ hp).set p 6 _ hp).set p 7 _ hp
theorem MB.past {w w':World} {p q gd cd ga ca g1 c1 g2 c2:Nat} {c:Mc} (h:MB w p gd cd ga ca g1 c1 g2 c2 c) (k:Kept q (q+1) w w') (hn:p<q):MB w' p gd cd ga ca g1 c1 g2 c2 c:=Blk.kept h k (by omega)
theorem MO.past {w w':World} {lo mid hi p q gd ga g1 g2 c2:Nat} {xs ys bx bl:List Int} {bm:Nat} (h:MO w lo mid hi p gd ga g1 g2 c2 xs ys bx bl bm) (k:Kept q (q+1) w w') (h0:mid<=q) (h1:g1<q) (h2:g2<q):MO w' lo mid hi p gd ga g1 g2 c2 xs ys bx bl bm:=by
 have:=h.d1;have:=h.a1
 exact h.kept k (by omega) (by omega) (by omega) (by omega)
def jO (r:Rg) (gd cd ga ca:Nat):Value:=.agg #[.slice (some (abb gd 0)) 4 cd,.slice (some (abb ga 0)) 4 ca,iv r.o,iv r.p,iv r.f,iv r.m,.bool r.s,.bool r.t]
theorem zN (w:World) (lo mid gd cd ga ca:Nat) (r:Rg) (z k v:Int) (hr:fQ w lo mid r (some (abb gd 0)) (some (abb ga 0))) (hh:mid<=w.heap.size) (hg:Pl.Good r) (k0:0<=k) (k1:k<=3) (hv:okv z v=true) :
  Calls prog 157 #[jO r gd cd ga ca,iv z,iv k,iv v] w fun e w'=>e=.returned (jO (lG r z k v) gd cd ga ca)/\fQ w' lo mid (lG r z k v) (some (abb gd 0)) (some (abb ga 0))/\Kept lo mid w w':=by
 have h:=O6 w lo mid r _ _ cd ca z k v hr hh hg (by have:=aU hv;omega) k0 k1 hv;rw[hg.d4,hg.a4,(hg.put k0 k1 hv).d4,(hg.put k0 k1 hv).a4]at h;exact h
theorem DV (w:World) (lo mid gd cd ga ca:Nat) (r:Rg) (n:Int) (hr:fQ w lo mid r (some (abb gd 0)) (some (abb ga 0))) (hh:mid<=w.heap.size) (hg:Pl.Good r) (h0:0<=n) (h1:n<=1023) :
  Calls prog 162 #[jO r gd cd ga ca,iv n] w fun e w'=>e=.returned (jO (aY r n) gd cd ga ca)/\fQ w' lo mid (aY r n) (some (abb gd 0)) (some (abb ga 0))/\Kept lo mid w w':=by
 have h:=IU w lo mid r _ _ cd ca n hr hh hg h0 h1;rw[hg.d4,hg.a4,(hg.with n).d4,(hg.with n).a4]at h;exact h
theorem Jv (w:World) (lo mid gd cd ga ca:Nat) (r:Rg) (z m k e:Int) (hr:fQ w lo mid r (some (abb gd 0)) (some (abb ga 0))) (hh:mid<=w.heap.size) (hg:Pl.Good r) (k0:0<=k) (k1:k<=3) (e0:0<=e) (e1:e<=65535) (hm:m=2\/m=3\/m=4\/m=5\/m=6) :
  Calls prog 204 #[jO r gd cd ga ca,iv z,.agg #[iv m,iv k,iv e]] w fun e' w'=>e'=.returned (.tuple #[jO (bG r z m k e) gd cd ga ca,iv (bu r z m k e)])/\fQ w' lo mid (bG r z m k e) (some (abb gd 0)) (some (abb ga 0))/\Kept lo mid w w':=by
 have h:=F9 w lo mid r _ _ cd ca z m k e hr hh hg k0 k1 e0 e1 hm;rw[hg.d4,hg.a4,(hg.place k0 k1).d4,(hg.place k0 k1).a4]at h;exact h
theorem uN (w:World) (lo mid hi p gd cd ga ca g1 c1 g2 c2:Nat) (c:Mc) (k s a v:Int) (hB:MB w p gd cd ga ca g1 c1 g2 c2 c) (hO:MO w lo mid hi p gd ga g1 g2 c2 c.r.xs c.r.ys c.bx c.bl c.bm) (G:GM c) (hask:eU k s a v=true) :
  Calls prog 235 #[.pointer (some (abb p 8)),iv k,iv s,iv a,iv v] w fun e w'=>∃g3 c3:Nat,e=.returned (.tuple #[iv (c.gI k s a v),iv (Pl.code k s a)])/\
   MB w' p gd cd ga ca g1 c1 g3 c3 {c.acc k s a v with f:=c.f}/\MO w' lo mid hi p gd ga g1 g3 c3 c.r.xs c.r.ys (c.acc k s a v).bx (c.acc k s a v).bl (c.acc k s a v).bm/\Since w lo hi g2 w' g3:=by
 refine(Z7 w p mid g1 g2 _ _ _ _ _ _ _ _ _ _ _ _ _ _ c.bx c.bl c1 c.bm c2 k s a v hB hO.b G.bx G.ok hO.l hO.p0 hO.b0 hO.pb hO.pl hO.bl' G.bm hask).mono ?_;rintro e w'⟨g3,c3,rfl,hB2,hb2,hl2,n1,kk⟩;have q1:=hO.d1;have q2:=hO.a1;have q3:=hO.d0;have q4:=hB.lt;have q5:=hO.p0;have q6:=hO.p1;have q7:=hO.b1;have q8:=hO.b0;have q9:=hO.g2;have qa:=hO.pb;have qb:=hO.pl;have qc:=hO.bl';have qd:=hO.b.lt (by rw[G.bx];decide);exact⟨g3,c3,rfl,hB2,⟨kk.own hO.d (by omega),kk.own hO.a (by omega),hb2,hl2,hO.d0,hO.d1,hO.a0,hO.a1,hO.da,hO.p0,hO.b0,hO.pb,by omega,hO.p1,hO.b1,by omega,Nat.le_trans hO.hh kk.size⟩,n1,kk.wide (fun i _ h=>by unfold own;omega)⟩
def nM (x:Pl.In):Array Value:=(inX x)
theorem aZ {W:World} {b:Nat} {x:Pl.In} {ty:TypeId} (h:Blk W b (nM x) ty):W.cell? (abb b 0)=some (iv x.op)/\W.cell? (abb b 1)=some (iv x.z)/\W.cell? (abb b 2)=some (iv x.r)/\W.cell? (abb b 3)=some (iv x.m)/\W.cell? (abb b 4)=some (iv x.k)/\W.cell? (abb b 5)=some (iv x.e)/\W.cell? (abb b 6)=some (iv x.s):=
 ⟨h.cell (i:=0) rfl,h.cell (i:=1) rfl,h.cell (i:=2) rfl,h.cell (i:=3) rfl,h.cell (i:=4) rfl,h.cell (i:=5) rfl,h.cell (i:=6) rfl⟩
theorem xJ (w:World) (b:Nat) (v0 v1 v2 v3 v4 v5 v6:Value):Kept b (b+1) w (((((((w.setCell (abb b 0) v0).setCell (abb b 1) v1).setCell (abb b 2) v2).setCell (abb b 3) v3).setCell (abb b 4) v4).setCell (abb b 5) v5).setCell (abb b 6) v6):=
 ((((((ak w b 0 v0).one 1 v1).one 2 v2).one 3 v3).one 4 v4).one 5 v5).one 6 v6
theorem sW {lo hi b g g':Nat} {w W:World} (h:Since w lo hi g W g') (hp:w.heap.size<=b) (v0 v1 v2 v3 v4 v5 v6:Value):Since w lo hi g (((((((W.setCell (abb b 0) v0).setCell (abb b 1) v1).setCell (abb b 2) v2).setCell (abb b 3) v3).setCell (abb b 4) v4).setCell (abb b 5) v5).setCell (abb b 6) v6) g':=
 ((((((h.set b 0 _ (.inr hp)).set b 1 _ (.inr hp)).set b 2 _ (.inr hp)).set b 3 _ (.inr hp)).set b 4 _ (.inr hp)).set b 5 _ (.inr hp)).set b 6 _ (.inr hp)
theorem MAt.past {w w':World} {lo mid hi p g2 b:Nat} {c:Mc} (h:MAt w lo mid hi p g2 c) (k:Kept b (b+1) w w') (hb:hi<=b) (hn:b≠g2):MAt w' lo mid hi p g2 c:=by
 obtain⟨gd,cd,ga,ca,g1,c1,c2,hB,hO⟩:=h;have:=hO.d1;have:=hO.a1;have:=hO.p0;have:=hO.p1;have:=hO.b1;exact⟨gd,cd,ga,ca,g1,c1,c2,Blk.kept hB k (by omega),hO.kept k (by omega) (by omega) (by omega) (by omega)⟩
theorem MAt.cell {w w':World} {lo mid hi p g2:Nat} {c c':Mc} (h:MAt w lo mid hi p g2 c) (k:Kept p (p+1) w w') (hB:∀gd cd ga ca g1 c1 c2:Nat,MB w p gd cd ga ca g1 c1 g2 c2 c->MB w' p gd cd ga ca g1 c1 g2 c2 c') (e1:c'.r.xs=c.r.xs) (e2:c'.r.ys=c.r.ys) (e3:c'.bx=c.bx) (e4:c'.bl=c.bl) (e5:c'.bm=c.bm):MAt w' lo mid hi p g2 c':=by
 obtain⟨gd,cd,ga,ca,g1,c1,c2,hB0,hO⟩:=h;refine⟨gd,cd,ga,ca,g1,c1,c2,hB _ _ _ _ _ _ _ hB0,?_⟩;rw[e1,e2,e3,e4,e5];exact hO.own k
theorem MAt.cP {w:World} {lo mid hi p g2:Nat} {c:Mc} (h:MAt w lo mid hi p g2 c) (v:Int):MAt (w.setCell (abb p 3) (iv v)) lo mid hi p g2 (c.aH v):=h.cell (ak _ _ _ _) (fun _ _ _ _ _ _ _ q=>q.cP v) rfl rfl rfl rfl rfl
theorem MAt.cF {w:World} {lo mid hi p g2:Nat} {c:Mc} (h:MAt w lo mid hi p g2 c) (v:Int):MAt (w.setCell (abb p 4) (iv v)) lo mid hi p g2 (c.aJ v):=h.cell (ak _ _ _ _) (fun _ _ _ _ _ _ _ q=>q.cF v) rfl rfl rfl rfl rfl
theorem MAt.cSt {w:World} {lo mid hi p g2:Nat} {c:Mc} (h:MAt w lo mid hi p g2 c) (v:Bool):MAt (w.setCell (abb p 10) (.bool v)) lo mid hi p g2 ({c with st:=v}):=h.cell (ak _ _ _ _) (fun _ _ _ _ _ _ _ q=>q.cSt v) rfl rfl rfl rfl rfl
theorem MAt.cV {w:World} {lo mid hi p g2:Nat} {c:Mc} (h:MAt w lo mid hi p g2 c) (v:Int):MAt (w.setCell (abb p 11) (iv v)) lo mid hi p g2 ({c with f:={c.f with v:=v}}):=h.cell (ak _ _ _ _) (fun _ _ _ _ _ _ _ q=>q.cV v) rfl rfl rfl rfl rfl
theorem MAt.cPc {w:World} {lo mid hi p g2:Nat} {c:Mc} (h:MAt w lo mid hi p g2 c) (v:Int):MAt (w.setCell (abb p 12) (iv v)) lo mid hi p g2 ({c with f:={c.f with pc:=v}}):=h.cell (ak _ _ _ _) (fun _ _ _ _ _ _ _ q=>q.cPc v) rfl rfl rfl rfl rfl
theorem MAt.cWo {w:World} {lo mid hi p g2:Nat} {c:Mc} (h:MAt w lo mid hi p g2 c) (v:Int):MAt (w.setCell (abb p 14) (iv v)) lo mid hi p g2 ({c with f:={c.f with wo:=v}}):=h.cell (ak _ _ _ _) (fun _ _ _ _ _ _ _ q=>q.cWo v) rfl rfl rfl rfl rfl
section
variable {w:World} {p gd cd ga ca g1 c1 g2 c2:Nat} {c:Mc}
theorem MB.k0 (h:MB w p gd cd ga ca g1 c1 g2 c2 c):w.cell? (abb p 0)=some (.slice (some (abb gd 0)) 4 cd):=Blk.cell h rfl
theorem MB.k1 (h:MB w p gd cd ga ca g1 c1 g2 c2 c):w.cell? (abb p 1)=some (.slice (some (abb ga 0)) 4 ca):=Blk.cell h rfl
theorem MB.k2 (h:MB w p gd cd ga ca g1 c1 g2 c2 c):w.cell? (abb p 2)=some (iv c.r.o):=Blk.cell h rfl
theorem MB.k3 (h:MB w p gd cd ga ca g1 c1 g2 c2 c):w.cell? (abb p 3)=some (iv c.r.p):=Blk.cell h rfl
theorem MB.k4 (h:MB w p gd cd ga ca g1 c1 g2 c2 c):w.cell? (abb p 4)=some (iv c.r.f):=Blk.cell h rfl
theorem MB.k5 (h:MB w p gd cd ga ca g1 c1 g2 c2 c):w.cell? (abb p 5)=some (iv c.r.m):=Blk.cell h rfl
theorem MB.k6 (h:MB w p gd cd ga ca g1 c1 g2 c2 c):w.cell? (abb p 6)=some (.bool c.r.s):=Blk.cell h rfl
theorem MB.k7 (h:MB w p gd cd ga ca g1 c1 g2 c2 c):w.cell? (abb p 7)=some (.bool c.r.t):=Blk.cell h rfl
theorem MB.k10 (h:MB w p gd cd ga ca g1 c1 g2 c2 c):w.cell? (abb p 10)=some (.bool c.st):=Blk.cell h rfl
theorem MB.k11 (h:MB w p gd cd ga ca g1 c1 g2 c2 c):w.cell? (abb p 11)=some (iv c.f.v):=Blk.cell h rfl
theorem MB.k12 (h:MB w p gd cd ga ca g1 c1 g2 c2 c):w.cell? (abb p 12)=some (iv c.f.pc):=Blk.cell h rfl
theorem MB.c8 (h:MB w p gd cd ga ca g1 c1 g2 c2 c):w.cell? (abb p 0)=some (.slice (some (abb gd 0)) 4 cd)/\w.cell? (abb p 1)=some (.slice (some (abb ga 0)) 4 ca)/\w.cell? (abb p 2)=some (iv c.r.o)/\w.cell? (abb p 3)=some (iv c.r.p)/\w.cell? (abb p 4)=some (iv c.r.f)/\w.cell? (abb p 5)=some (iv c.r.m)/\w.cell? (abb p 6)=some (.bool c.r.s)/\w.cell? (abb p 7)=some (.bool c.r.t):=⟨h.k0,h.k1,h.k2,h.k3,h.k4,h.k5,h.k6,h.k7⟩
end
theorem MAt.op {w:World} {lo mid hi p g2:Nat} {c:Mc} (h:MAt w lo mid hi p g2 c):∃gd cd ga ca g1 c1 c2:Nat,Hid (MB w p gd cd ga ca g1 c1 g2 c2 c)/\Hid (MO w lo mid hi p gd ga g1 g2 c2 c.r.xs c.r.ys c.bx c.bl c.bm):=by
 obtain⟨gd,cd,ga,ca,g1,c1,c2,hB,hO⟩:=h;exact⟨gd,cd,ga,ca,g1,c1,c2,aba hB,aba hO⟩
theorem MAt.mD {w:World} {lo mid hi p g2:Nat} {c:Mc} (h:MAt w lo mid hi p g2 c) (x:Pl.In):∃X:World,w.alloc (.cells (inX x) 48)=X/\Hid (Kept 0 0 w X)/\Hid (Blk X w.heap.size (nM x) 48)/\w.heap.size<X.heap.size/\Hid (hi<=w.heap.size)/\Hid (w.heap.size≠g2)/\Hid ((lo<=p/\p<hi)\/w.heap.size<=p)/\Hid (p<w.heap.size)/\Hid (mid<=hi)/\Hid (Since w lo hi g2 X g2)/\Hid (MAt X lo mid hi p g2 c):=by
 have hl:=h.lo;have KA:=kept_alloc w (.cells (nM x) 48);exact⟨_,rfl,aba KA,aba (Blk.new w (nM x) _),by simp,aba (by omega),aba (by omega),aba (by omega),aba (by omega),aba (by omega),aba ((Since.refl w lo hi g2).any KA),aba (h.any KA)⟩
theorem Since.nx {w X W:World} {lo hi g0 g g' b:Nat} {cs:Array Value} {ty:TypeId} (h:Since X lo hi g W g') (HX:Hid (Blk X b cs ty)) (HH:Hid (hi<=b)) (HG:Hid (b≠g)) (HS:Hid (Since w lo hi g0 X g)):Hid (Blk W b cs ty)/\Hid (b≠g')/\Hid (Since w lo hi g0 W g'):=
 ⟨aba (h.blk HX.o HH.o HG.o),aba (h.ne HX.o.lt HG.o),aba (HS.o.trans h)⟩
end Go.Proofs.YtgikibaajanjiaaGreatDoor
